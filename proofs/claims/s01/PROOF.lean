import PyProof.Rows.All
import Wide.All
import OpenK.AllK
import Wide.FinOn
import PyProof.EqAt
import PyProof.EqKinds
import PyProof.TupleCall
import KE.BitLaws
import KE.KSortTupG
import KE.KDictSum
import KE.OsGo
import Open.SpecLaws
import PySem.Challenge.RW_keptbook_s01_answers
set_option Elab.async false
set_option linter.all false
set_option maxRecDepth 100000
namespace Kb
open Md33
theorem and_mask32 (x:Nat):x &&& 4294967295=x%2^32:=Nat.and_two_pow_sub_one_eq_mod x 32
theorem and_mask8 (x:Nat):x &&& 255=x%256:=Nat.and_two_pow_sub_one_eq_mod x 8
theorem pow256 (i:Nat):2^(8*i)=256^i:=by rw[Nat.pow_mul]
def rotl (k x:Nat):Nat:=(x*2^k ||| x/2^(32-k))%2^32
theorem rotl_eq {k x:Nat} (hx:x<2^32):rotl k x=rotate k x:=by
 unfold rotl rotate W32
 rw[Nat.or_mod_two_pow]
 have h:x/2^(32-k)<2^32:=Nat.lt_of_le_of_lt (Nat.div_le_self _ _) hx
 rw[Nat.mod_eq_of_lt h]
theorem rotate_lt {k x:Nat} (hx:x<2^32):rotate k x<2^32:=by
 rw[← rotl_eq hx]
 exact Nat.mod_lt _ (by decide)
theorem Zy (k n:Nat):(low k n).length=k:=by simp[low]
theorem low_lt {k n x:Nat} (h:x∈low k n):x<256:=by
 unfold low at h
 obtain ⟨i,_,rfl⟩:=List.mem_map.mp h
 exact Nat.mod_lt _ (by decide)
theorem zeros_eq (n:Nat):((64-9-(n:Int))%64).toNat=(119-n%64)%64:=by omega
theorem ofHigh4 (a b c d:Nat):ofHigh [a,b,c,d]=a*2^24+b*2^16+c*2^8+d:=by
 simp[ofHigh,ofLow]
 omega
theorem or_add {a b k:Nat} (h:b<2^k):a*2^k ||| b=a*2^k+b:=by
 have:=Nat.two_pow_add_eq_or_of_lt h a
 rw[Nat.mul_comm a,this]
theorem word_or {a b c d:Nat} (hb:b<256) (hc:c<256) (hd:d<256):
  ((a*2^24 ||| b*2^16) ||| c*2^8) ||| d=ofHigh [a,b,c,d]:=by
 rw[ofHigh4]
 have e1:a*2^24 ||| b*2^16=(a*2^8+b)*2^16:=by
  rw[or_add (show b*2^16<2^24 by omega)];omega
 have e2:(a*2^8+b)*2^16 ||| c*2^8=((a*2^8+b)*2^8+c)*2^8:=by
  rw[or_add (show c*2^8<2^16 by omega)];omega
 rw[e1,e2,or_add (show d<2^8 by omega)]
 omega
theorem Xu:∀(n:Nat) (b:Bytes),(words n b).length=n
 | 0,_=>rfl
 | n+1,b=>by
  show (words n b).length+1=n+1
  rw[Xu n b]
theorem ofHigh_lt:∀{l:Bytes},(∀x∈l,x<256)→l.length≤4→ofHigh l<2^32
 | [],_,_=>by decide
 | [a],h,_=>by
  have h1:=h a (by simp)
  simp[ofHigh,ofLow];omega
 | [a,b],h,_=>by
  have h1:=h a (by simp);have h2:=h b (by simp)
  simp[ofHigh,ofLow];omega
 | [a,b,c],h,_=>by
  have h1:=h a (by simp);have h2:=h b (by simp);have h3:=h c (by simp)
  simp[ofHigh,ofLow];omega
 | [a,b,c,d],h,_=>by
  have h1:=h a (by simp);have h2:=h b (by simp);have h3:=h c (by simp);have h4:=h d (by simp)
  simp[ofHigh,ofLow];omega
 | _::_::_::_::_::_,_,h=>by simp at h
theorem xor_lt32 {a b:Nat} (ha:a<2^32) (hb:b<2^32):a ^^^ b<2^32:=Nat.xor_lt_two_pow ha hb
theorem Yo {l:List Nat} {i m:Nat} (h:∀x∈l,x<m) (hm:0<m):l.getD i 0<m:=by
 rw[List.getD_eq_getElem?_getD]
 cases e:l[i]? with
 | none=>exact hm
 | some x=>exact h x (List.mem_of_getElem? e)
theorem words_lt:∀(n:Nat) {b:Bytes},(∀x∈b,x<256)→∀x∈words n b,x<2^32
 | 0,_,_,x,h=>by cases h
 | n+1,b,hb,x,h=>by
  have ih:=words_lt n hb
  have h:x∈(if n<16 then ofHigh ((b.drop (4*n)).take 4) else rotate 1 ((words n b).getD 2 0 ^^^ (words n b).getD 7 0 ^^^ (words n b).getD 13 0 ^^^ (words n b).getD 15 0))::words n b:=h
  rcases List.mem_cons.mp h with e|h
  ·rw[e]
   split
   ·exact ofHigh_lt (fun y hy=>hb y (List.mem_of_mem_drop (List.mem_of_mem_take hy))) (by simp;omega)
   ·have z:0<2^32:=by decide
    exact rotate_lt (xor_lt32 (xor_lt32 (xor_lt32 (Yo ih z) (Yo ih z)) (Yo ih z)) (Yo ih z))
  ·exact ih x h
def sched (n:Nat) (b:Bytes):List Nat:=(words n b).reverse
theorem sched_length (n:Nat) (b:Bytes):(sched n b).length=n:=by simp[sched,Xu]
theorem sched_lt (n:Nat) {b:Bytes} (hb:∀x∈b,x<256):∀x∈sched n b,x<2^32:=fun x h=>words_lt n hb x (List.mem_reverse.mp h)
theorem sched_low {n:Nat} (b:Bytes) (h:n<16):sched (n+1) b=sched n b++[ofHigh ((b.drop (4*n)).take 4)]:=by
 show ((if n<16 then _ else _)::words n b).reverse=_
 rw[if_pos h,List.reverse_cons];rfl
theorem rev_at {l:List Nat} {n j:Nat} (hl:l.length=n) (hj:j<n):l.reverse[n-1-j]?=some (l.getD j 0):=by
 rw[List.getElem?_reverse (by omega),List.getD_eq_getElem?_getD]
 have e:l.length-1-(n-1-j)=j:=by omega
 rw[e]
 cases q:l[j]? with
 | none=>have:=List.getElem?_eq_none_iff.mp q;omega
 | some x=>rfl
theorem sched_high {n:Nat} (b:Bytes) (h:16≤n):∃w3 w8 w14 w16,(sched n b)[n-3]?=some w3∧(sched n b)[n-8]?=some w8∧(sched n b)[n-14]?=some w14∧(sched n b)[n-16]?=some w16 ∧
  sched (n+1) b=sched n b++[rotate 1 (w3 ^^^ w8 ^^^ w14 ^^^ w16)]:=by
 refine ⟨(words n b).getD 2 0,(words n b).getD 7 0,(words n b).getD 13 0,(words n b).getD 15 0,?_,?_,?_,?_,?_⟩
 ·exact rev_at (j:=2) (Xu n b) (by omega)
 ·exact rev_at (j:=7) (Xu n b) (by omega)
 ·exact rev_at (j:=13) (Xu n b) (by omega)
 ·exact rev_at (j:=15) (Xu n b) (by omega)
 ·show ((if n<16 then _ else _)::words n b).reverse=_
  rw[if_neg (by omega),List.reverse_cons];rfl
theorem turn_a {s:Five} {w t:Nat} (ha:s.a<2^32):
  (rotl 5 s.a+(mixed t s+constant t)+s.e+w)%2^32=(turn s (w,t)).a:=by
 show _=(rotate 5 s.a+mixed t s+s.e+constant t+w)%W32
 rw[rotl_eq ha]
 unfold W32
 congr 1
 omega
structure Small (s:Five):Prop where
 a:s.a<2^32
 b:s.b<2^32
 c:s.c<2^32
 d:s.d<2^32
 e:s.e<2^32
theorem Small.turn {s:Five} (h:Small s) (x:Nat×Nat):Small (turn s x):=
 ⟨Nat.mod_lt _ (by decide),h.a,rotate_lt h.b,h.c,h.d⟩
theorem Small.fold {s:Five} (h:Small s):∀l:List (Nat×Nat),Small (l.foldl Md33.turn s)
 | []=>h
 | x::l=>(h.turn x).fold l
theorem small_piece (s:Five) (b:Bytes):Small (piece s b):=by
 constructor<;>exact Nat.mod_lt _ (by decide)
theorem small_START:Small START:=by constructor<;>decide
theorem pieces_succ (n:Nat):∀(s:Five) (b:Bytes),pieces (n+1) s b=piece (pieces n s b) ((b.drop (64*n)).take 64):=by
 induction n with
 | zero=>intro s b;simp[pieces]
 | succ n ih=>
  intro s b
  show pieces (n+1) (piece s (b.take 64)) (b.drop 64)=piece (pieces n (piece s (b.take 64)) (b.drop 64)) _
  rw[ih,List.drop_drop]
  congr 3
  all_goals omega
theorem xor_mask {b:Nat} (hb:b<2^32):b ^^^ 4294967295=W32-1-b:=by
 apply Nat.eq_of_testBit_eq
 intro i
 have e:W32-1-b=2^32-(b+1):=by unfold W32;omega
 rw[e,Nat.testBit_two_pow_sub_succ hb,Nat.testBit_xor]
 rw[show (4294967295:Nat)=2^32-1 by decide,Nat.testBit_two_pow_sub_one]
 by_cases hi:i<32
 ·simp[hi]
 ·simp[hi]
  exact Nat.testBit_lt_two_pow (Nat.lt_of_lt_of_le hb (Nat.pow_le_pow_right (by decide) (by omega)))
theorem shaped_sum (b:Bytes):sum b=(fun s:Five=>high4 s.a++(high4 s.b++(high4 s.c++(high4 s.d++high4 s.e)))) (pieces ((padded b).length/64) START (padded b)):=rfl
theorem padded_length (b:Bytes):∃n,(padded b).length=64*n:=by
 unfold padded
 refine ⟨(b.length+1+(119-b.length%64)%64+8)/64,?_⟩
 simp only[List.length_append,List.length_cons,List.length_replicate,List.length_reverse,Zy]
 omega
theorem padded_lt {b:Bytes} (h:∀x∈b,x<256):∀x∈padded b,x<256:=by
 intro x hx
 unfold padded at hx
 rcases List.mem_append.mp hx with hx|hx
 ·rcases List.mem_append.mp hx with hx|hx
  ·exact h x hx
  ·rcases List.mem_cons.mp hx with hx|hx
   ·rw[hx];decide
   ·rw[(List.mem_replicate.mp hx).2];decide
 ·exact low_lt (List.mem_reverse.mp hx)
theorem high4_lt {n x:Nat} (h:x∈high4 n):x<256:=low_lt (List.mem_reverse.mp h)
theorem high4_length (n:Nat):(high4 n).length=4:=by simp[high4,Zy]
theorem Xo (b:Bytes):(Md33.sum b).length=20:=by
 rw[shaped_sum]
 simp only[List.length_append,high4_length]
theorem sum_lt {b:Bytes} {x:Nat} (h:x∈Md33.sum b):x<256:=by
 rw[shaped_sum] at h
 simp only[List.mem_append] at h
 rcases h with h|h|h|h|h<;>exact high4_lt h
theorem Jv {p:Nat→Bool} {n:Nat} (h:(List.range n).all p=true):∀x,x<n→p x=true:=fun x hx=>
 List.all_eq_true.mp h x (List.mem_range.mpr hx)
def dbl (x:Nat):Nat:=if x*2>255 then (x*2) ^^^ 283 else x*2
theorem Xs {x:Nat} (h:x<256):dbl x=doubled x:=by
 have:=Jv (p:=fun x=>decide (dbl x=doubled x)) (n:=256) (by decide +kernel) x h
 exact of_decide_eq_true this
theorem J5 {x:Nat} (h:x<256):doubled x<256:=by
 have:=Jv (p:=fun x=>decide (doubled x<256)) (n:=256) (by decide +kernel) x h
 exact of_decide_eq_true this
theorem Zw {a b:Nat} (ha:a<256) (hb:b<256):a ^^^ b<256:=Nat.xor_lt_two_pow (n:=8) ha hb
theorem product1 {x:Nat} (h:x<256):product x 1=x:=by
 have:=Jv (p:=fun x=>decide (product x 1=x)) (n:=256) (by decide +kernel) x h
 exact of_decide_eq_true this
theorem product2 {x:Nat} (h:x<256):product x 2=doubled x:=by
 have:=Jv (p:=fun x=>decide (product x 2=doubled x)) (n:=256) (by decide +kernel) x h
 exact of_decide_eq_true this
theorem product3 {x:Nat} (h:x<256):product x 3=doubled x ^^^ x:=by
 have:=Jv (p:=fun x=>decide (product x 3=doubled x ^^^ x)) (n:=256) (by decide +kernel) x h
 exact of_decide_eq_true this
theorem doubled_xor {x y:Nat} (hx:x<256) (hy:y<256):doubled (x ^^^ y)=doubled x ^^^ doubled y:=by
 have:=Jv (p:=fun x=>(List.range 256).all fun y=>decide (doubled (x ^^^ y)=doubled x ^^^ doubled y)) (n:=256) (by decide +kernel) x hx
 exact of_decide_eq_true (Jv this y hy)
def mixCol (a b c d:Nat):List Nat:=
 [a ^^^ (a ^^^ b ^^^ c ^^^ d) ^^^ dbl (a ^^^ b),b ^^^ (a ^^^ b ^^^ c ^^^ d) ^^^ dbl (b ^^^ c),c ^^^ (a ^^^ b ^^^ c ^^^ d) ^^^ dbl (c ^^^ d),d ^^^ (a ^^^ b ^^^ c ^^^ d) ^^^ dbl (d ^^^ a)]
theorem dbl_xor {x y:Nat} (hx:x<256) (hy:y<256):dbl (x ^^^ y)=doubled x ^^^ doubled y:=by
 rw[Xs (Zw hx hy),doubled_xor hx hy]
theorem mixEl0 {a b c d:Nat} (ha:a<256) (hb:b<256) (hc:c<256) (hd:d<256):
  0 ^^^ product a 2 ^^^ product b 3 ^^^ product c 1 ^^^ product d 1=a ^^^ (a ^^^ b ^^^ c ^^^ d) ^^^ dbl (a ^^^ b):=by
 rw[product2 ha,product3 hb,product1 hc,product1 hd,dbl_xor ha hb,Nat.zero_xor]
 apply Nat.eq_of_testBit_eq
 intro i
 simp only[Nat.testBit_xor]
 cases (doubled a).testBit i<;>cases (doubled b).testBit i<;>cases a.testBit i<;>cases b.testBit i<;>cases c.testBit i<;>cases d.testBit i<;>rfl
theorem mixEl1 {a b c d:Nat} (ha:a<256) (hb:b<256) (hc:c<256) (hd:d<256):
  0 ^^^ product a 1 ^^^ product b 2 ^^^ product c 3 ^^^ product d 1=b ^^^ (a ^^^ b ^^^ c ^^^ d) ^^^ dbl (b ^^^ c):=by
 rw[product2 hb,product3 hc,product1 ha,product1 hd,dbl_xor hb hc,Nat.zero_xor]
 apply Nat.eq_of_testBit_eq
 intro i
 simp only[Nat.testBit_xor]
 cases (doubled c).testBit i<;>cases (doubled b).testBit i<;>cases a.testBit i<;>cases b.testBit i<;>cases c.testBit i<;>cases d.testBit i<;>rfl
theorem mixEl2 {a b c d:Nat} (ha:a<256) (hb:b<256) (hc:c<256) (hd:d<256):
  0 ^^^ product a 1 ^^^ product b 1 ^^^ product c 2 ^^^ product d 3=c ^^^ (a ^^^ b ^^^ c ^^^ d) ^^^ dbl (c ^^^ d):=by
 rw[product2 hc,product3 hd,product1 ha,product1 hb,dbl_xor hc hd,Nat.zero_xor]
 apply Nat.eq_of_testBit_eq
 intro i
 simp only[Nat.testBit_xor]
 cases (doubled c).testBit i<;>cases (doubled d).testBit i<;>cases a.testBit i<;>cases b.testBit i<;>cases c.testBit i<;>cases d.testBit i<;>rfl
theorem mixEl3 {a b c d:Nat} (ha:a<256) (hb:b<256) (hc:c<256) (hd:d<256):
  0 ^^^ product a 3 ^^^ product b 1 ^^^ product c 1 ^^^ product d 2=d ^^^ (a ^^^ b ^^^ c ^^^ d) ^^^ dbl (d ^^^ a):=by
 rw[product2 hd,product3 ha,product1 hc,product1 hb,dbl_xor hd ha,Nat.zero_xor]
 apply Nat.eq_of_testBit_eq
 intro i
 simp only[Nat.testBit_xor]
 cases (doubled a).testBit i<;>cases (doubled d).testBit i<;>cases a.testBit i<;>cases b.testBit i<;>cases c.testBit i<;>cases d.testBit i<;>rfl
theorem mix_cols {b:Bytes} (hb:∀x∈b,x<256):mix [2,3,1,1] b =
  mixCol (b.getD 0 0) (b.getD 1 0) (b.getD 2 0) (b.getD 3 0)++(mixCol (b.getD 4 0) (b.getD 5 0) (b.getD 6 0) (b.getD 7 0) ++
  (mixCol (b.getD 8 0) (b.getD 9 0) (b.getD 10 0) (b.getD 11 0)++mixCol (b.getD 12 0) (b.getD 13 0) (b.getD 14 0) (b.getD 15 0))):=by
 have h:∀i,b.getD i 0<256:=fun i=>Yo hb (by decide)
 unfold mixCol
 rw[← mixEl0 (h 0) (h 1) (h 2) (h 3),← mixEl1 (h 0) (h 1) (h 2) (h 3),← mixEl2 (h 0) (h 1) (h 2) (h 3),← mixEl3 (h 0) (h 1) (h 2) (h 3),
  ← mixEl0 (h 4) (h 5) (h 6) (h 7),← mixEl1 (h 4) (h 5) (h 6) (h 7),← mixEl2 (h 4) (h 5) (h 6) (h 7),← mixEl3 (h 4) (h 5) (h 6) (h 7),
  ← mixEl0 (h 8) (h 9) (h 10) (h 11),← mixEl1 (h 8) (h 9) (h 10) (h 11),← mixEl2 (h 8) (h 9) (h 10) (h 11),← mixEl3 (h 8) (h 9) (h 10) (h 11),
  ← mixEl0 (h 12) (h 13) (h 14) (h 15),← mixEl1 (h 12) (h 13) (h 14) (h 15),← mixEl2 (h 12) (h 13) (h 14) (h 15),← mixEl3 (h 12) (h 13) (h 14) (h 15)]
 rfl
theorem mix_col {b:Bytes} (hb:∀x∈b,x<256) {c:Nat} (hc:c<4):(mix [2,3,1,1] b).take (4*(c+1))=(mix [2,3,1,1] b).take (4*c) ++
  mixCol (b.getD (4*c) 0) (b.getD (4*c+1) 0) (b.getD (4*c+2) 0) (b.getD (4*c+3) 0):=by
 rw[mix_cols hb]
 match c,hc with
 | 0,_=>rfl
 | 1,_=>rfl
 | 2,_=>rfl
 | 3,_=>rfl
theorem dbl_lt {x:Nat} (h:x<256):dbl x<256:=by rw[Xs h];exact J5 h
theorem mixCol_lt {a b c d:Nat} (ha:a<256) (hb:b<256) (hc:c<256) (hd:d<256):∀x∈mixCol a b c d,x<256:=by
 intro x hx
 have he:=Zw (Zw (Zw ha hb) hc) hd
 unfold mixCol at hx
 simp only[List.mem_cons,List.not_mem_nil,or_false] at hx
 rcases hx with rfl|rfl|rfl|rfl
 ·exact Zw (Zw ha he) (dbl_lt (Zw ha hb))
 ·exact Zw (Zw hb he) (dbl_lt (Zw hb hc))
 ·exact Zw (Zw hc he) (dbl_lt (Zw hc hd))
 ·exact Zw (Zw hd he) (dbl_lt (Zw hd ha))
theorem mix_lt {b:Bytes} (hb:∀x∈b,x<256):∀x∈mix [2,3,1,1] b,x<256:=by
 have h:∀i,b.getD i 0<256:=fun i=>Yo hb (by decide)
 intro x hx
 rw[mix_cols hb] at hx
 simp only[List.mem_append] at hx
 rcases hx with hx|hx|hx|hx<;>exact mixCol_lt (h _) (h _) (h _) (h _) x hx
theorem mix_length (r b:Bytes):(mix r b).length=16:=by simp[mix]
def subN (x:Nat):Nat:=SUB.getD x 0
theorem xor_list_lt {a b:Bytes} (ha:∀x∈a,x<256) (hb:∀x∈b,x<256):∀x∈Md33.xor a b,x<256:=by
 intro x hx
 obtain ⟨p,hp,rfl⟩:=List.mem_map.mp hx
 exact Zw (ha _ (List.of_mem_zip hp).1) (hb _ (List.of_mem_zip hp).2)
theorem xor_length (a b:Bytes):(Md33.xor a b).length=min a.length b.length:=by simp[Md33.xor]
theorem shifted_map (f:Nat→Nat) {s:Bytes} (hs:s.length=16):shifted (s.map f)=[0,5,10,15,4,9,14,3,8,13,2,7,12,1,6,11].map fun i=>f (s.getD i 0):=by
 match s,hs with
 | [x0,x1,x2,x3,x4,x5,x6,x7,x8,x9,x10,x11,x12,x13,x14,x15],_=>rfl
theorem Jc:∀(n:Nat) (k:Bytes),(keyWords n k).length=n
 | 0,_=>rfl
 | n+1,k=>by
  show (keyWords n k).length+1=n+1
  rw[Jc n k]
def factorAt (m:Nat):Nat:=(List.range m).foldl (fun (x:Nat) (_:Nat)=>doubled x) 1
theorem factorAt_succ (m:Nat):factorAt (m+1)=doubled (factorAt m):=by
 unfold factorAt
 rw[List.range_succ,List.foldl_append]
 rfl
theorem factorAt_lt:∀m,factorAt m<256
 | 0=>by decide
 | m+1=>by rw[factorAt_succ];exact J5 (factorAt_lt m)
def keyS (n:Nat) (k:Bytes):List Bytes:=(keyWords n k).reverse
theorem Qh (n:Nat) (k:Bytes):(keyS n k).length=n:=by simp[keyS,Jc]
theorem keyS_low {n:Nat} (k:Bytes) (h:n<4):keyS (n+1) k=keyS n k++[(k.drop (4*n)).take 4]:=by
 show ((if n<4 then _ else _)::keyWords n k).reverse=_
 rw[if_pos h,List.reverse_cons];rfl
theorem revB_at {l:List Bytes} {n j:Nat} (hl:l.length=n) (hj:j<n):l.reverse[n-1-j]?=some (l.getD j []):=by
 rw[List.getElem?_reverse (by omega),List.getD_eq_getElem?_getD]
 have e:l.length-1-(n-1-j)=j:=by omega
 rw[e]
 cases q:l[j]? with
 | none=>have:=List.getElem?_eq_none_iff.mp q;omega
 | some x=>rfl
theorem keyS_high {n:Nat} (k:Bytes) (h:4≤n):∃w1 w4,(keyS n k)[n-1]?=some w1∧(keyS n k)[n-4]?=some w4 ∧
  keyS (n+1) k=keyS n k++[Md33.xor w4 (if n%4=0 then Md33.xor ((w1.drop 1++w1.take 1).map subN) [factorAt (n/4-1),0,0,0] else w1)]:=by
 refine ⟨(keyWords n k).getD 0 [],(keyWords n k).getD 3 [],?_,?_,?_⟩
 ·exact revB_at (j:=0) (Jc n k) (by omega)
 ·exact revB_at (j:=3) (Jc n k) (by omega)
 ·show ((if n<4 then _ else _)::keyWords n k).reverse=_
  rw[if_neg (by omega),List.reverse_cons];rfl
theorem Xg:∀a:Bytes,before a a=false
 | []=>rfl
 | x::a=>by simp[before,Xg a]
theorem Yq {x y:Nat} {a b:Bytes}:before (x::a) (y::b)=true↔x<y∨(x=y∧before a b=true):=by
 simp[before]
theorem before_trans:∀{a b c:Bytes},before a b=true→before b c=true→before a c=true
 | [],[],_,h,_=>by cases h
 | [],_::_,[],_,h=>by cases h
 | [],_::_,_::_,_,_=>rfl
 | _::_,[],_,h,_=>by cases h
 | _::_,_::_,[],_,h=>by cases h
 | x::a,y::b,z::c,h,k=>by
  rcases Yq.mp h with h'|⟨e1,h'⟩
  ·rcases Yq.mp k with k'|⟨e2,k'⟩
   ·exact Yq.mpr (.inl (Nat.lt_trans h' k'))
   ·exact Yq.mpr (.inl (e2▸h'))
  ·rcases Yq.mp k with k'|⟨e2,k'⟩
   ·exact Yq.mpr (.inl (e1▸k'))
   ·exact Yq.mpr (.inr ⟨e1.trans e2,before_trans h' k'⟩)
theorem before_total:∀{a b:Bytes},a≠b→before a b=false→before b a=true
 | [],[],h,_=>absurd rfl h
 | [],_::_,_,h=>by cases h
 | _::_,[],_,_=>rfl
 | x::a,y::b,h,k=>by
  have k':¬ (x<y∨(x=y∧before a b=true)):=fun q=>by rw[Yq.mpr q] at k;cases k
  by_cases e:x=y
  ·subst e
   have q:before a b=false:=by
    cases z:before a b with
    | false=>rfl
    | true=>exact absurd (.inr ⟨rfl,z⟩) k'
   exact Yq.mpr (.inr ⟨rfl,before_total (fun z=>h (by rw[z])) q⟩)
  ·exact Yq.mpr (.inl (by omega))
theorem before_ne {a b:Bytes} (h:before a b=true):a≠b:=fun e=>by rw[e,Xg] at h;cases h
def Sorted (l:List Record):Prop:=l.Pairwise fun x y=>before x.name y.name=true
theorem sorted_nil:Sorted []:=List.Pairwise.nil
theorem sorted_inj:∀{l:List Record},Sorted l→∀{x y:Record},x∈l→y∈l→x.name=y.name→x=y
 | [],_,_,_,h,_,_=>by cases h
 | z::l,hs,x,y,hx,hy,e=>by
  have h1:=List.pairwise_cons.mp hs
  rcases List.mem_cons.mp hx with e1|hx'
  ·rcases List.mem_cons.mp hy with e2|hy'
   ·rw[e1,e2]
   ·exact absurd (e1▸e) (before_ne (h1.1 y hy'))
  ·rcases List.mem_cons.mp hy with e2|hy'
   ·exact absurd (e2▸e).symm (before_ne (h1.1 x hx'))
   ·exact sorted_inj h1.2 hx' hy' e
theorem Ja (r:Record):∀{l:List Record},Sorted l→∀{x:Record},x∈withRecord r l↔x=r∨(x∈l∧x.name≠r.name)
 | [],_,x=>by simp[withRecord]
 | z::l,hs,x=>by
  have h1:=List.pairwise_cons.mp hs
  unfold withRecord
  by_cases e:z.name=r.name
  ·rw[if_pos e]
   constructor
   ·intro h
    rcases List.mem_cons.mp h with h|h
    ·exact .inl h
    ·exact .inr ⟨List.mem_cons_of_mem _ h,fun q=>before_ne (h1.1 x h) (e.trans q.symm)⟩
   ·rintro (h|⟨h,k⟩)
    ·exact List.mem_cons.mpr (.inl h)
    ·rcases List.mem_cons.mp h with h|h
     ·rw[h] at k;exact absurd e k
     ·exact List.mem_cons_of_mem _ h
  ·rw[if_neg e]
   by_cases b:before r.name z.name=true
   ·rw[if_pos b]
    constructor
    ·intro h
     rcases List.mem_cons.mp h with h|h
     ·exact .inl h
     ·refine .inr ⟨h,fun q=>?_⟩
      rcases List.mem_cons.mp h with h|h
      ·rw[h] at q;exact e q
      ·have:=before_trans b (h1.1 x h);rw[q,Xg] at this;cases this
    ·rintro (h|⟨h,_⟩)
     ·exact List.mem_cons.mpr (.inl h)
     ·exact List.mem_cons_of_mem _ h
   ·rw[if_neg b]
    constructor
    ·intro h
     rcases List.mem_cons.mp h with h|h
     ·exact .inr ⟨List.mem_cons.mpr (.inl h),by rw[h];exact e⟩
     ·rcases (Ja r h1.2).mp h with h|⟨h,k⟩
      ·exact .inl h
      ·exact .inr ⟨List.mem_cons_of_mem _ h,k⟩
    ·rintro (h|⟨h,k⟩)
     ·exact List.mem_cons_of_mem _ ((Ja r h1.2).mpr (.inl h))
     ·rcases List.mem_cons.mp h with h|h
      ·exact List.mem_cons.mpr (.inl h)
      ·exact List.mem_cons_of_mem _ ((Ja r h1.2).mpr (.inr ⟨h,k⟩))
theorem sorted_with (r:Record):∀{l:List Record},Sorted l→Sorted (withRecord r l)
 | [],_=>List.pairwise_cons.mpr ⟨fun _ h=>(by cases h),sorted_nil⟩
 | z::l,hs=>by
  have h1:=List.pairwise_cons.mp hs
  unfold withRecord
  by_cases e:z.name=r.name
  ·rw[if_pos e]
   exact List.pairwise_cons.mpr ⟨fun y hy=>by rw[← e];exact h1.1 y hy,h1.2⟩
  ·rw[if_neg e]
   by_cases b:before r.name z.name=true
   ·rw[if_pos b]
    refine List.pairwise_cons.mpr ⟨fun y hy=>?_,hs⟩
    rcases List.mem_cons.mp hy with rfl|hy
    ·exact b
    ·exact before_trans b (h1.1 y hy)
   ·rw[if_neg b]
    refine List.pairwise_cons.mpr ⟨fun y hy=>?_,sorted_with r h1.2⟩
    rcases (Ja r h1.2).mp hy with h|⟨h,_⟩
    ·rw[h]
     exact before_total (fun q=>e q.symm) (by simpa using b)
    ·exact h1.1 y h
theorem sorted_filter {l:List Record} (p:Record→Bool) (h:Sorted l):Sorted (l.filter p):=List.Pairwise.filter p h
theorem find_some {s:Stand} {name:Bytes} {r:Record} (h:s.find name=some r):r∈s.records∧r.name=name:=by
 refine ⟨List.mem_of_find?_eq_some h,?_⟩
 have:=List.find?_some h
 simpa using this
theorem find_iff {s:Stand} (hs:Sorted s.records) {name:Bytes} {r:Record}:s.find name=some r↔r∈s.records∧r.name=name:=by
 refine ⟨find_some,fun ⟨h,e⟩=>?_⟩
 cases q:s.find name with
 | none=>
  have:=List.find?_eq_none.mp q r h
  simp[e] at this
 | some x=>
  obtain ⟨h1,e1⟩:=find_some q
  rw[sorted_inj hs h1 h (e1.trans e.symm)]
theorem find_none {s:Stand} {name:Bytes}:s.find name=none↔∀r∈s.records,r.name≠name:=by
 unfold Stand.find
 rw[List.find?_eq_none]
 simp
theorem names_uniq:∀{l m:List Bytes},l.Pairwise (fun x y=>before x y=true)→m.Pairwise (fun x y=>before x y=true)→(∀x,x∈l↔x∈m)→l=m
 | [],[],_,_,_=>rfl
 | [],y::m,_,_,h=>absurd ((h y).mpr (by simp)) (by simp)
 | x::l,[],_,_,h=>absurd ((h x).mp (by simp)) (by simp)
 | x::l,y::m,hl,hm,h=>by
  have h1:=List.pairwise_cons.mp hl
  have h2:=List.pairwise_cons.mp hm
  have e:x=y:=by
   rcases List.mem_cons.mp ((h x).mp (by simp)) with e|e
   ·exact e
   ·rcases List.mem_cons.mp ((h y).mpr (by simp)) with e'|e'
    ·exact e'.symm
    ·have a:=h2.1 x e
     have b:=h1.1 y e'
     have:=before_trans a b
     rw[Xg] at this;cases this
  subst e
  rw[names_uniq h1.2 h2.2 fun z=>?_]
  constructor
  ·intro hz
   rcases List.mem_cons.mp ((h z).mp (List.mem_cons_of_mem _ hz)) with q|q
   ·rw[q] at hz;have:=h1.1 x hz;rw[Xg] at this;cases this
   ·exact q
  ·intro hz
   rcases List.mem_cons.mp ((h z).mpr (List.mem_cons_of_mem _ hz)) with q|q
   ·rw[q] at hz;have:=h2.1 x hz;rw[Xg] at this;cases this
   ·exact q
def Qu (n:Nat):Nat:=28+16*blocks n
def recLen (r:Record):Nat:=Qu (3+r.name.length+r.body.length)
def weight (l:List Record):Nat:=(l.map recLen).sum
theorem Ya (r:Record) (l:List Record):weight (r::l)=recLen r+weight l:=by simp[weight]
theorem weight_with (r:Record):∀l:List Record,weight (withRecord r l)≤recLen r+weight l
 | []=>by simp[withRecord,weight]
 | z::l=>by
  unfold withRecord
  split
  ·rw[Ya,Ya];omega
  ·split
   ·rw[Ya];omega
   ·rw[Ya,Ya]
    have:=weight_with r l
    omega
theorem weight_filter (p:Record→Bool):∀l:List Record,weight (l.filter p)≤weight l
 | []=>Nat.le_refl _
 | z::l=>by
  have:=weight_filter p l
  rw[List.filter_cons]
  split
  ·rw[Ya,Ya];omega
  ·rw[Ya];omega
theorem filled_length (b:Bytes):(filled b).length=16*blocks b.length:=by
 unfold filled blocks
 rw[List.length_append,List.length_replicate]
 omega
noncomputable def tab:List Nat:=[99,124,119,123,242,107,111,197,48,1,103,43,254,215,171,118,202,130,201,125,250,89,71,240,173,212,162,175,156,164,114,192,183,253,147,38,54,63,247,204,52,165,229,241,113,216,49,21,4,199,35,195,24,150,5,154,7,18,128,226,235,39,178,117,9,131,44,26,27,110,90,160,82,59,214,179,41,227,47,132,83,209,0,237,32,252,177,91,106,203,190,57,74,76,88,207,208,239,170,251,67,77,51,133,69,249,2,127,80,60,159,168,81,163,64,143,146,157,56,245,188,182,218,33,16,255,243,210,205,12,19,236,95,151,68,23,196,167,126,61,100,93,25,115,96,129,79,220,34,42,144,136,70,238,184,20,222,94,11,219,224,50,58,10,73,6,36,92,194,211,172,98,145,149,228,121,231,200,55,109,141,213,78,169,108,86,244,234,101,122,174,8,186,120,37,46,28,166,180,198,232,221,116,31,75,189,139,138,112,62,181,102,72,3,246,14,97,53,87,185,134,193,29,158,225,248,152,17,105,217,142,148,155,30,135,233,206,85,40,223,140,161,137,13,191,230,66,104,65,153,45,15,176,84,187,22]
theorem sub_tab:SUB.toList=tab:=by decide +kernel
theorem subN_tab (x:Nat):subN x=tab.getD x 0:=by
 unfold subN
 rw[← sub_tab,Array.getD_eq_getD_getElem?,List.getD_eq_getElem?_getD,Array.getElem?_toList]
theorem tab_lt:∀x∈tab,x<256:=by
 have h:tab.all (fun x=>decide (x<256))=true:=by decide +kernel
 exact fun x hx=>of_decide_eq_true (List.all_eq_true.mp h x hx)
theorem subN_lt (x:Nat):subN x<256:=by
 rw[subN_tab]
 exact Yo tab_lt (by decide)
structure W4 (l:Bytes):Prop where
 len:l.length=4
 lt:∀x∈l,x<256
theorem W4.xor {a b:Bytes} (ha:W4 a) (hb:W4 b):W4 (Md33.xor a b):=⟨by rw[xor_length,ha.len,hb.len];rfl,xor_list_lt ha.lt hb.lt⟩
theorem W4.turned {a:Bytes} (h:W4 a):W4 ((a.drop 1++a.take 1).map subN):=by
 refine ⟨by simp[h.len],fun x hx=>?_⟩
 obtain ⟨y,_,rfl⟩:=List.mem_map.mp hx
 exact subN_lt y
theorem keyS_w4 {k:Bytes} (hk:k.length=16) (hb:∀x∈k,x<256):∀n:Nat,∀l∈keyS n k,W4 l
 | 0,l,h=>by cases h
 | n+1,l,h=>by
  have ih:=keyS_w4 hk hb n
  by_cases hn:n<4
  ·rw[keyS_low k hn] at h
   rcases List.mem_append.mp h with h|h
   ·exact ih l h
   ·have e:=List.mem_singleton.mp h
    rw[e]
    exact ⟨by rw[List.length_take,List.length_drop];omega,fun x hx=>hb x (List.mem_of_mem_drop (List.mem_of_mem_take hx))⟩
  ·obtain ⟨w1,w4,h1,h4,e⟩:=keyS_high (n:=n) k (by omega)
   have a1:=ih _ (List.mem_of_getElem? h1)
   have a4:=ih _ (List.mem_of_getElem? h4)
   rw[e] at h
   rcases List.mem_append.mp h with h|h
   ·exact ih l h
   ·have e:=List.mem_singleton.mp h
    rw[e]
    refine a4.xor ?_
    split
    ·refine a1.turned.xor ⟨rfl,fun x hx=>?_⟩
     have h0:=factorAt_lt (n/4-1)
     simp only[List.mem_cons,List.not_mem_nil,or_false] at hx
     rcases hx with rfl|rfl|rfl|rfl<;>first|exact h0|decide
    ·exact a1
def roundK (k:Bytes) (i:Nat):Bytes:=roundKey (wordsOf k) i
theorem roundK_16 {k:Bytes} (hk:k.length=16) (hb:∀x∈k,x<256) {i:Nat} (hi:i≤10):(roundK k i).length=16∧∀x∈roundK k i,x<256:=by
 have hw:=keyS_w4 hk hb 44
 have hl:(keyS 44 k).length=44:=Qh 44 k
 have e:roundK k i=(((keyS 44 k).drop (4*i)).take 4).flatten:=rfl
 constructor
 ·rw[e]
  have hl4:(((keyS 44 k).drop (4*i)).take 4).length=4:=by rw[List.length_take,List.length_drop,hl];omega
  have h4:∀l∈((keyS 44 k).drop (4*i)).take 4,l.length=4:=fun l hl=>(hw l (List.mem_of_mem_drop (List.mem_of_mem_take hl))).len
  match ((keyS 44 k).drop (4*i)).take 4,hl4,h4 with
  | [a,b,c,d],_,h4=>
   simp[h4 a (by simp),h4 b (by simp),h4 c (by simp),h4 d (by simp)]
 ·rw[e]
  intro x hx
  obtain ⟨l,hl,hx⟩:=List.mem_flatten.mp hx
  exact (hw l (List.mem_of_mem_drop (List.mem_of_mem_take hl))).lt x hx
structure B16 (l:Bytes):Prop where
 len:l.length=16
 lt:∀x∈l,x<256
theorem B16.xor {a b:Bytes} (ha:B16 a) (hb:B16 b):B16 (Md33.xor a b):=⟨by rw[xor_length,ha.len,hb.len];rfl,xor_list_lt ha.lt hb.lt⟩
theorem B16.sub {a:Bytes} (h:B16 a):B16 (shifted (a.map subN)):=by
 refine ⟨by simp[shifted],fun x hx=>?_⟩
 rw[shifted_map _ h.len] at hx
 obtain ⟨y,_,rfl⟩:=List.mem_map.mp hx
 exact subN_lt _
theorem B16.mix {a:Bytes} (h:B16 a):B16 (Md33.mix [2,3,1,1] a):=⟨mix_length _ _,mix_lt h.lt⟩
theorem B16.round {k:Bytes} (hk:B16 k) {i:Nat} (hi:i≤10):B16 (roundK k i):=⟨(roundK_16 hk.len hk.lt hi).1,(roundK_16 hk.len hk.lt hi).2⟩
def turnsS (k b:Bytes) (n:Nat):Bytes:=(List.range n).foldl (fun (s:Bytes) (i:Nat)=>Md33.xor (Md33.mix [2,3,1,1] (shifted (s.map subN))) (roundK k (i+1))) (Md33.xor b (roundK k 0))
theorem turnsS_zero (k b:Bytes):turnsS k b 0=Md33.xor b (roundK k 0):=rfl
theorem turnsS_succ (k b:Bytes) (n:Nat):turnsS k b (n+1)=Md33.xor (Md33.mix [2,3,1,1] (shifted ((turnsS k b n).map subN))) (roundK k (n+1)):=by
 unfold turnsS
 rw[List.range_succ,List.foldl_append]
 rfl
theorem turnsS_16 {k b:Bytes} (hk:B16 k) (hb:B16 b):∀n:Nat,n≤9→B16 (turnsS k b n)
 | 0,_=>hb.xor (hk.round (by omega))
 | n+1,h=>by
  rw[turnsS_succ]
  exact (turnsS_16 hk hb n (by omega)).sub.mix.xor (hk.round (by omega))
theorem shutBlock_eq (k b:Bytes):shutBlock (wordsOf k) b=Md33.xor (shifted ((turnsS k b 9).map subN)) (roundK k 10):=rfl
theorem shutBlock_16 {k b:Bytes} (hk:B16 k) (hb:B16 b):B16 (shutBlock (wordsOf k) b):=by
 rw[shutBlock_eq]
 exact (turnsS_16 hk hb 9 (by omega)).sub.xor (hk.round (by omega))
theorem shutFrom_all {k:Bytes} (hk:B16 k):∀(n:Nat) {s b:Bytes},B16 s→b.length=16*n→(∀x∈b,x<256)→(shutFrom (wordsOf k) n s b).length=16*n∧∀x∈shutFrom (wordsOf k) n s b,x<256
 | 0,_,_,_,_,_=>⟨rfl,fun x h=>by cases h⟩
 | n+1,s,b,hs,hl,hb=>by
  have h16:B16 (b.take 16):=⟨by rw[List.length_take];omega,fun x hx=>hb x (List.mem_of_mem_take hx)⟩
  have hc:=shutBlock_16 hk (h16.xor hs)
  obtain ⟨h1,h2⟩:=shutFrom_all hk n hc (b:=b.drop 16) (by rw[List.length_drop];omega) fun x hx=>hb x (List.mem_of_mem_drop hx)
  have e:shutFrom (wordsOf k) (n+1) s b=shutBlock (wordsOf k) (Md33.xor (b.take 16) s)++shutFrom (wordsOf k) n (shutBlock (wordsOf k) (Md33.xor (b.take 16) s)) (b.drop 16):=rfl
  rw[e]
  refine ⟨by rw[List.length_append,hc.len,h1];omega,fun x hx=>?_⟩
  rcases List.mem_append.mp hx with hx|hx
  ·exact hc.lt x hx
  ·exact h2 x hx
def replay1 (rs:List Record) (x:Nat×Entry):List Record:=match x.2 with
 | .put kind name body=>withRecord ⟨name,kind,x.1,body⟩ rs
 | .drop name=>rs.filter fun (r:Record)=>r.name != name
 | .back _=>rs
def replay (w:List (Nat×Entry)):List Record:=w.foldl replay1 []
theorem replay_snoc (w:List (Nat×Entry)) (x:Nat×Entry):replay (w++[x])=replay1 (replay w) x:=by
 unfold replay
 rw[List.foldl_append];rfl
theorem sorted_replay1 {rs:List Record} (h:Sorted rs) (x:Nat×Entry):Sorted (replay1 rs x):=by
 unfold replay1
 split
 ·exact sorted_with _ h
 ·exact sorted_filter _ h
 ·exact h
theorem sorted_fold:∀(w:List (Nat×Entry)) {rs:List Record},Sorted rs→Sorted (w.foldl replay1 rs)
 | [],_,h=>h
 | x::w,_,h=>sorted_fold w (sorted_replay1 h x)
theorem Yp (w:List (Nat×Entry)):Sorted (replay w):=sorted_fold w sorted_nil
def isBack:Entry→Bool
 | .back _=>true
 | _=>false
structure GoodS (cnt len:Nat) (st:Stand):Prop where
 rcs:st.records=replay st.way
 ents:∀x∈st.way,1≤x.1∧x.1≤cnt∧x.2.fits∧isBack x.2=false
 wt:weight st.records+44≤len
structure Good (b:Book):Prop where
 ne:b.stands≠[]
 first:b.stands[0]?=some (Stand.mk [] [])
 st:∀st∈b.stands,GoodS b.count b.bytes.length st
 byt:∀x∈b.bytes,x<256
 len:44≤b.bytes.length
 salt:B16 b.salt
 key:∀k,b.key=some k→B16 k
theorem Yb {b:Book} (h:b.stands≠[]):b.stand∈b.stands:=by
 unfold Book.stand
 rw[List.getLastD_eq_getLast?]
 cases q:b.stands.getLast? with
 | none=>exact absurd (List.getLast?_eq_none_iff.mp q) h
 | some x=>exact List.mem_of_getLast? q
theorem last_length {b:Book} (h:44≤b.bytes.length):b.last.length=20:=by
 unfold Book.last
 rw[List.length_drop];omega
theorem last_lt {b:Book} (h:∀x∈b.bytes,x<256):∀x∈b.last,x<256:=fun x hx=>h x (List.mem_of_mem_drop hx)
theorem key16 {b:Bytes} (h:∀x∈b,x<256) (hl:16≤b.length):B16 (b.take 16):=⟨by rw[List.length_take];omega,fun x hx=>h x (List.mem_of_mem_take hx)⟩
theorem filled_lt {b:Bytes} (h:∀x∈b,x<256):∀x∈filled b,x<256:=by
 intro x hx
 unfold filled at hx
 rcases List.mem_append.mp hx with hx|hx
 ·exact h x hx
 ·rw[(List.mem_replicate.mp hx).2];decide
theorem shutText_all {key:Option Bytes} (hk:∀k,key=some k→B16 k) {s b:Bytes} (hs:∀x∈s,x<256) (hs16:16≤s.length) {n:Nat} (hb:∀x∈b,x<256) (hl:b.length=16*n):
  (shutText key s b).length=16*n∧∀x∈shutText key s b,x<256:=by
 cases key with
 | none=>exact ⟨hl,hb⟩
 | some k=>
  have e:shutText (some k) s b=shutFrom (wordsOf k) n (s.take 16) b:=by
   show shutFrom (wordsOf k) (b.length/16) (s.take 16) b=_
   rw[hl,Nat.mul_div_cancel_left _ (by decide)]
  rw[e]
  exact shutFrom_all (hk k rfl) n (key16 hs hs16) hl hb
theorem plain_lt {e:Entry} (h:e.fits):∀x∈e.plain,x<256:=by
 intro x hx
 cases e with
 | put kind name body=>
  obtain ⟨h1,h2,h3,h4,h5,h6⟩:=h
  have hx:x∈1::kind::name.length::(name++body):=hx
  unfold NAME at h5
  simp only[List.mem_cons,List.mem_append] at hx
  rcases hx with rfl|rfl|rfl|hx|hx
  ·decide
  ·exact h1
  ·omega
  ·exact h2 x hx
  ·exact h3 x hx
 | drop name=>
  obtain ⟨h1,h2,h3⟩:=h
  have hx:x∈2::name.length::name:=hx
  unfold NAME at h3
  simp only[List.mem_cons] at hx
  rcases hx with rfl|rfl|hx
  ·decide
  ·omega
  ·exact h1 x hx
 | back n=>
  have hx:x∈3::low 4 n:=hx
  rcases List.mem_cons.mp hx with rfl|hx
  ·decide
  ·exact low_lt hx
theorem written_all {b:Book} (g:Good b) {n:Nat} {e:Entry} (h:e.fits):(written b.key b.last n e).length=Qu e.plain.length∧∀x∈written b.key b.last n e,x<256:=by
 have hl:=last_length g.len
 obtain ⟨h1,h2⟩:=shutText_all g.key (s:=b.last) (last_lt g.byt) (by omega) (filled_lt (plain_lt h)) (filled_length e.plain)
 unfold written Qu
 constructor
 ·simp only[List.length_append,Zy,h1,Xo];omega
 ·intro x hx
  simp only[List.mem_append] at hx
  rcases hx with (hx|hx|hx)|hx
  ·exact low_lt hx
  ·exact low_lt hx
  ·exact h2 x hx
  ·exact sum_lt hx
theorem J4 {key:Option Bytes} {salt:Bytes} (hk:∀k,key=some k→B16 k) (hs:B16 salt):(headOf key salt).length=44∧∀x∈headOf key salt,x<256:=by
 unfold headOf mark
 constructor
 ·simp only[List.length_append,Xo,hs.len,List.length_cons,List.length_nil]
 ·intro x hx
  simp only[List.mem_append,List.mem_cons,List.not_mem_nil,or_false] at hx
  rcases hx with (hx|hx)|hx
  ·rcases hx with rfl|rfl|rfl|rfl|rfl|rfl|rfl|rfl<;>first|decide|(split<;>decide)
  ·exact hs.lt x hx
  ·exact sum_lt hx
theorem good_begun {key:Option Bytes} {salt:Bytes} (hk:∀k,key=some k→B16 k) (hs:B16 salt):Good (begun key salt):=by
 obtain ⟨h1,h2⟩:=J4 hk hs
 refine ⟨by simp[begun],rfl,fun st h=>?_,h2,by show 44≤(headOf key salt).length;omega,hs,hk⟩
 have e:st=Stand.mk [] []:=by simpa[begun] using h
 subst e
 exact ⟨rfl,(fun x hx=>by cases hx),by show 0+44≤(headOf key salt).length;omega⟩
theorem plain_put (kind:Nat) (name body:Bytes):(Entry.put kind name body).plain.length=3+name.length+body.length:=by
 simp[Entry.plain];omega
theorem after_good {b:Book} (g:Good b) {e:Entry} (h:e.fits) {s:Stand} (ha:after b e=some s):GoodS (b.count+1) (b.bytes.length+Qu e.plain.length) s:=by
 have gs:=g.st _ (Yb g.ne)
 cases e with
 | put kind name body=>
  have e:(⟨withRecord ⟨name,kind,b.count+1,body⟩ b.stand.records,b.stand.way++[(b.count+1,.put kind name body)]⟩:Stand)=s:=Option.some.inj ha
  subst e
  refine ⟨?_,fun x hx=>?_,?_⟩
  ·show withRecord _ b.stand.records=replay (b.stand.way++[_])
   rw[replay_snoc,gs.rcs];rfl
  ·rcases List.mem_append.mp hx with hx|hx
   ·have:=gs.ents x hx
    exact ⟨this.1,by omega,this.2.2⟩
   ·rw[List.mem_singleton.mp hx]
    exact ⟨by omega,by omega,h,rfl⟩
  ·have h1:=weight_with ⟨name,kind,b.count+1,body⟩ b.stand.records
   have h2:=gs.wt
   have e:recLen ⟨name,kind,b.count+1,body⟩=Qu (3+name.length+body.length):=rfl
   rw[plain_put]
   show weight (withRecord _ b.stand.records)+44≤_
   omega
 | drop name=>
  have ha:(if (b.stand.find name).isSome=true then some (⟨b.stand.records.filter fun (r:Record)=>r.name != name,b.stand.way++[(b.count+1,.drop name)]⟩:Stand) else none)=some s:=ha
  split at ha
  ·have e:=Option.some.inj ha
   subst e
   refine ⟨?_,fun x hx=>?_,?_⟩
   ·show List.filter _ b.stand.records=replay (b.stand.way++[_])
    rw[replay_snoc,gs.rcs];rfl
   ·rcases List.mem_append.mp hx with hx|hx
    ·have:=gs.ents x hx
     exact ⟨this.1,by omega,this.2.2⟩
    ·rw[List.mem_singleton.mp hx]
     exact ⟨by omega,by omega,h,rfl⟩
   ·have h1:=weight_filter (fun (r:Record)=>r.name != name) b.stand.records
    have h2:=gs.wt
    show weight (List.filter _ b.stand.records)+44≤_
    omega
  ·cases ha
 | back n=>
  have ha:b.stands[n]?=some s:=ha
  have gs:=g.st s (List.mem_of_getElem? ha)
  exact ⟨gs.rcs,fun x hx=>⟨(gs.ents x hx).1,Nat.le_succ_of_le (gs.ents x hx).2.1,(gs.ents x hx).2.2⟩,Nat.le_trans gs.wt (Nat.le_add_right _ _)⟩
theorem added_some {b c:Book} {e:Entry} (h:added b e=some c):∃s,after b e=some s∧c={ b with bytes:=b.bytes++written b.key b.last (b.count+1) e,stands:=b.stands++[s] }:=by
 unfold added at h
 cases q:after b e with
 | none=>rw[q] at h;cases h
 | some s=>rw[q] at h;exact ⟨s,rfl,(Option.some.inj h).symm⟩
theorem good_added {b c:Book} (g:Good b) {e:Entry} (hf:e.fits) (h:added b e=some c):Good c∧c.count=b.count+1∧c.bytes.length=b.bytes.length+Qu e.plain.length:=by
 obtain ⟨s,ha,rfl⟩:=added_some h
 obtain ⟨w1,w2⟩:=written_all g (n:=b.count+1) hf
 have hl:1≤b.stands.length:=by
  have:=g.ne
  cases q:b.stands with
  | nil=>exact absurd q this
  | cons x l=>simp
 have hc:({ b with bytes:=b.bytes++written b.key b.last (b.count+1) e,stands:=b.stands++[s] }:Book).count=b.count+1:=by
  unfold Book.count
  simp only[List.length_append,List.length_cons,List.length_nil]
  omega
 have hb:(b.bytes++written b.key b.last (b.count+1) e).length=b.bytes.length+Qu e.plain.length:=by rw[List.length_append,w1]
 refine ⟨⟨by simp,?_,fun st hst=>?_,fun x hx=>?_,?_,g.salt,g.key⟩,hc,hb⟩
 ·show (b.stands++[s])[0]?=some (Stand.mk [] [])
  rw[List.getElem?_append_left (by omega)];exact g.first
 ·rw[hc]
  show GoodS (b.count+1) (b.bytes++written b.key b.last (b.count+1) e).length st
  rw[hb]
  rcases List.mem_append.mp hst with hst|hst
  ·have gs:=g.st st hst
   exact ⟨gs.rcs,fun x hx=>⟨(gs.ents x hx).1,Nat.le_succ_of_le (gs.ents x hx).2.1,(gs.ents x hx).2.2⟩,Nat.le_trans gs.wt (Nat.le_add_right _ _)⟩
  ·rw[List.mem_singleton.mp hst]
   exact after_good g hf ha
 ·rcases List.mem_append.mp hx with hx|hx
  ·exact g.byt x hx
  ·exact w2 x hx
 ·show 44≤(b.bytes++written b.key b.last (b.count+1) e).length
  rw[hb];have:=g.len;omega
noncomputable def inv:List Nat:=[82,9,106,213,48,54,165,56,191,64,163,158,129,243,215,251,124,227,57,130,155,47,255,135,52,142,67,68,196,222,233,203,84,123,148,50,166,194,35,61,238,76,149,11,66,250,195,78,8,46,161,102,40,217,36,178,118,91,162,73,109,139,209,37,114,248,246,100,134,104,152,22,212,164,92,204,93,101,182,146,108,112,72,80,253,237,185,218,94,21,70,87,167,141,157,132,144,216,171,0,140,188,211,10,247,228,88,5,184,179,69,6,208,44,30,143,202,63,15,2,193,175,189,3,1,19,138,107,58,145,17,65,79,103,220,234,151,242,207,206,240,180,230,115,150,172,116,34,231,173,53,133,226,249,55,232,28,117,223,110,71,241,26,113,29,41,197,137,111,183,98,14,170,24,190,27,252,86,62,75,198,210,121,32,154,219,192,254,120,205,90,244,31,221,168,51,136,7,199,49,177,18,16,89,39,128,236,95,96,81,127,169,25,181,74,13,45,229,122,159,147,201,156,239,160,224,59,77,174,42,245,176,200,235,187,60,131,83,153,97,23,43,4,126,186,119,214,38,225,105,20,99,85,33,12,125]
theorem inv_tab {y:Nat} (h:y<256):inv.getD y 0<256∧tab.getD (inv.getD y 0) 0=y:=by
 have:=Jv (p:=fun y=>decide (inv.getD y 0<256)&&decide (tab.getD (inv.getD y 0) 0=y)) (n:=256) (by decide +kernel) y h
 simpa using this
theorem tab_inv {x:Nat} (h:x<256):inv.getD (tab.getD x 0) 0=x:=by
 have:=Jv (p:=fun x=>decide (inv.getD (tab.getD x 0) 0=x)) (n:=256) (by decide +kernel) x h
 exact of_decide_eq_true this
def backN (y:Nat):Nat:=BACK.getD y 0
theorem backN_find {y:Nat} (h:y<256):backN y=((List.range 256).find? fun (x:Nat)=>subN x==y).getD 0:=by
 unfold backN BACK
 rw[Array.getD_eq_getD_getElem?]
 simp only[List.getElem?_toArray,List.getElem?_map,List.getElem?_range h,Option.map_some,Option.getD_some]
 rfl
theorem backN_inv {y:Nat} (h:y<256):backN y=inv.getD y 0:=by
 obtain ⟨h1,h2⟩:=inv_tab h
 rw[backN_find h]
 cases q:(List.range 256).find? fun (x:Nat)=>subN x==y with
 | none=>
  have:=List.find?_eq_none.mp q (inv.getD y 0) (List.mem_range.mpr h1)
  rw[subN_tab,h2] at this
  simp at this
 | some x=>
  have hx:x<256:=List.mem_range.mp (List.mem_of_find?_eq_some q)
  have e:subN x=y:=by simpa using List.find?_some q
  show x=_
  rw[← e,subN_tab,tab_inv hx]
theorem backN_lt {y:Nat} (h:y<256):backN y<256:=by rw[backN_inv h];exact (inv_tab h).1
theorem sub_back {y:Nat} (h:y<256):subN (backN y)=y:=by rw[backN_inv h,subN_tab];exact (inv_tab h).2
theorem shifted_unshifted {b:Bytes} (h:b.length=16):shifted (unshifted b)=b:=by
 match b,h with
 | [x0,x1,x2,x3,x4,x5,x6,x7,x8,x9,x10,x11,x12,x13,x14,x15],_=>rfl
theorem unshifted_length (b:Bytes):(unshifted b).length=16:=by simp[unshifted]
theorem Yw {b:Bytes} (h:B16 b):B16 (unshifted b):=by
 refine ⟨unshifted_length b,fun x hx=>?_⟩
 unfold unshifted at hx
 obtain ⟨i,_,rfl⟩:=List.mem_map.mp hx
 exact Yo h.lt (by decide)
theorem map_sub_back {b:Bytes} (h:∀x∈b,x<256):(b.map backN).map subN=b:=by
 rw[List.map_map]
 have:b.map (subN∘backN)=b.map id:=List.map_congr_left fun x hx=>sub_back (h x hx)
 rw[this,List.map_id]
theorem back_16 {b:Bytes} (h:B16 b):B16 (b.map backN):=by
 refine ⟨by rw[List.length_map,h.len],fun x hx=>?_⟩
 obtain ⟨y,hy,rfl⟩:=List.mem_map.mp hx
 exact backN_lt (h.lt y hy)
theorem Qi:∀(n:Nat) {x y:Nat} (c s t:Nat),x<256→y<256→productFrom n (x ^^^ y) c (s ^^^ t)=productFrom n x c s ^^^ productFrom n y c t
 | 0,_,_,_,_,_,_,_=>rfl
 | n+1,x,y,c,s,t,hx,hy=>by
  show productFrom n (doubled (x ^^^ y)) (c/2) (if c%2=1 then (s ^^^ t) ^^^ (x ^^^ y) else s ^^^ t)=productFrom n (doubled x) (c/2) (if c%2=1 then s ^^^ x else s) ^^^ productFrom n (doubled y) (c/2) (if c%2=1 then t ^^^ y else t)
  rw[doubled_xor hx hy]
  split
  ·rw[← Qi n _ _ _ (J5 hx) (J5 hy)]
   congr 1
   apply Nat.eq_of_testBit_eq
   intro i
   simp only[Nat.testBit_xor]
   cases s.testBit i<;>cases t.testBit i<;>cases x.testBit i<;>cases y.testBit i<;>rfl
  ·exact Qi n _ _ _ (J5 hx) (J5 hy)
theorem Yj {x y:Nat} (c:Nat) (hx:x<256) (hy:y<256):product (x ^^^ y) c=product x c ^^^ product y c:=by
 have:=Qi 8 c 0 0 hx hy
 rw[Nat.xor_self] at this
 exact this
theorem product_lt {x c:Nat} (hx:x<256) (hc:c<16):product x c<256:=by
 have:=Jv (p:=fun x=>(List.range 16).all fun c=>decide (product x c<256)) (n:=256) (by decide +kernel) x hx
 exact of_decide_eq_true (Jv this c hc)
theorem mm (x:Nat) (h:x<256):
  (product (product x 14) 2 ^^^ product (product x 9) 3 ^^^ product (product x 13) 1 ^^^ product (product x 11) 1=x) ∧
  (product (product x 11) 2 ^^^ product (product x 14) 3 ^^^ product (product x 9) 1 ^^^ product (product x 13) 1=0) ∧
  (product (product x 13) 2 ^^^ product (product x 11) 3 ^^^ product (product x 14) 1 ^^^ product (product x 9) 1=0) ∧
  (product (product x 9) 2 ^^^ product (product x 13) 3 ^^^ product (product x 11) 1 ^^^ product (product x 14) 1=0):=by
 have:=Jv (p:=fun x=>decide ((product (product x 14) 2 ^^^ product (product x 9) 3 ^^^ product (product x 13) 1 ^^^ product (product x 11) 1=x) ∧
  (product (product x 11) 2 ^^^ product (product x 14) 3 ^^^ product (product x 9) 1 ^^^ product (product x 13) 1=0) ∧
  (product (product x 13) 2 ^^^ product (product x 11) 3 ^^^ product (product x 14) 1 ^^^ product (product x 9) 1=0) ∧
  (product (product x 9) 2 ^^^ product (product x 13) 3 ^^^ product (product x 11) 1 ^^^ product (product x 14) 1=0))) (n:=256) (by decide +kernel) x h
 exact of_decide_eq_true this
theorem lin4 {a b c d e f g h m:Nat} (ha:a<256) (hb:b<256) (hc:c<256) (hd:d<256) (k:Nat) (pe:e<16) (pf:f<16) (pg:g<16) (ph:h<16):
  product (0 ^^^ product a e ^^^ product b f ^^^ product c g ^^^ product d h) k=product (product a e) k ^^^ product (product b f) k ^^^ product (product c g) k ^^^ product (product d h) k:=by
 have h1:=product_lt ha pe;have h2:=product_lt hb pf;have h3:=product_lt hc pg;have h4:=product_lt hd ph
 rw[Nat.zero_xor,Yj k (Zw (Zw h1 h2) h3) h4,Yj k (Zw h1 h2) h3,Yj k h1 h2]
theorem grp (a1 a2 a3 a4 b1 b2 b3 b4 c1 c2 c3 c4 d1 d2 d3 d4:Nat):
  0 ^^^ (a1 ^^^ b1 ^^^ c1 ^^^ d1) ^^^ (a2 ^^^ b2 ^^^ c2 ^^^ d2) ^^^ (a3 ^^^ b3 ^^^ c3 ^^^ d3) ^^^ (a4 ^^^ b4 ^^^ c4 ^^^ d4) =
  (a1 ^^^ a2 ^^^ a3 ^^^ a4) ^^^ (b1 ^^^ b2 ^^^ b3 ^^^ b4) ^^^ (c1 ^^^ c2 ^^^ c3 ^^^ c4) ^^^ (d1 ^^^ d2 ^^^ d3 ^^^ d4):=by
 rw[Nat.zero_xor]
 ac_rfl
theorem rot4 (a b c d:Nat):a ^^^ b ^^^ c ^^^ d=b ^^^ c ^^^ d ^^^ a:=by ac_rfl
theorem col0 {a b c d:Nat} (ha:a<256) (hb:b<256) (hc:c<256) (hd:d<256):
  0 ^^^ product (0 ^^^ product a 14 ^^^ product b 11 ^^^ product c 13 ^^^ product d 9) 2 ^^^ product (0 ^^^ product a 9 ^^^ product b 14 ^^^ product c 11 ^^^ product d 13) 3 ^^^
   product (0 ^^^ product a 13 ^^^ product b 9 ^^^ product c 14 ^^^ product d 11) 1 ^^^ product (0 ^^^ product a 11 ^^^ product b 13 ^^^ product c 9 ^^^ product d 14) 1=a:=by
 rw[lin4 (m:=0) ha hb hc hd,lin4 (m:=0) ha hb hc hd,lin4 (m:=0) ha hb hc hd,lin4 (m:=0) ha hb hc hd,grp,(mm a ha).1,(mm b hb).2.1,(mm c hc).2.2.1,(mm d hd).2.2.2]
 all_goals first|decide|simp
theorem col1 {a b c d:Nat} (ha:a<256) (hb:b<256) (hc:c<256) (hd:d<256):
  0 ^^^ product (0 ^^^ product a 14 ^^^ product b 11 ^^^ product c 13 ^^^ product d 9) 1 ^^^ product (0 ^^^ product a 9 ^^^ product b 14 ^^^ product c 11 ^^^ product d 13) 2 ^^^
   product (0 ^^^ product a 13 ^^^ product b 9 ^^^ product c 14 ^^^ product d 11) 3 ^^^ product (0 ^^^ product a 11 ^^^ product b 13 ^^^ product c 9 ^^^ product d 14) 1=b:=by
 rw[lin4 (m:=0) ha hb hc hd,lin4 (m:=0) ha hb hc hd,lin4 (m:=0) ha hb hc hd,lin4 (m:=0) ha hb hc hd,grp,rot4 (product (product a 14) 1),rot4 (product (product b 11) 1),rot4 (product (product c 13) 1),rot4 (product (product d 9) 1),(mm a ha).2.2.2,(mm b hb).1,(mm c hc).2.1,(mm d hd).2.2.1]
 all_goals first|decide|simp
theorem col2 {a b c d:Nat} (ha:a<256) (hb:b<256) (hc:c<256) (hd:d<256):
  0 ^^^ product (0 ^^^ product a 14 ^^^ product b 11 ^^^ product c 13 ^^^ product d 9) 1 ^^^ product (0 ^^^ product a 9 ^^^ product b 14 ^^^ product c 11 ^^^ product d 13) 1 ^^^
   product (0 ^^^ product a 13 ^^^ product b 9 ^^^ product c 14 ^^^ product d 11) 2 ^^^ product (0 ^^^ product a 11 ^^^ product b 13 ^^^ product c 9 ^^^ product d 14) 3=c:=by
 rw[lin4 (m:=0) ha hb hc hd,lin4 (m:=0) ha hb hc hd,lin4 (m:=0) ha hb hc hd,lin4 (m:=0) ha hb hc hd,grp,rot4 (product (product a 14) 1),rot4 (product (product b 11) 1),rot4 (product (product c 13) 1),rot4 (product (product d 9) 1),
  rot4 (product (product a 9) 1),rot4 (product (product b 14) 1),rot4 (product (product c 11) 1),rot4 (product (product d 13) 1),(mm a ha).2.2.1,(mm b hb).2.2.2,(mm c hc).1,(mm d hd).2.1]
 all_goals first|decide|simp
theorem col3 {a b c d:Nat} (ha:a<256) (hb:b<256) (hc:c<256) (hd:d<256):
  0 ^^^ product (0 ^^^ product a 14 ^^^ product b 11 ^^^ product c 13 ^^^ product d 9) 3 ^^^ product (0 ^^^ product a 9 ^^^ product b 14 ^^^ product c 11 ^^^ product d 13) 1 ^^^
   product (0 ^^^ product a 13 ^^^ product b 9 ^^^ product c 14 ^^^ product d 11) 1 ^^^ product (0 ^^^ product a 11 ^^^ product b 13 ^^^ product c 9 ^^^ product d 14) 2=d:=by
 rw[lin4 (m:=0) ha hb hc hd,lin4 (m:=0) ha hb hc hd,lin4 (m:=0) ha hb hc hd,lin4 (m:=0) ha hb hc hd,grp,← rot4 (product (product a 11) 2),← rot4 (product (product b 13) 2),← rot4 (product (product c 9) 2),← rot4 (product (product d 14) 2),(mm a ha).2.1,(mm b hb).2.2.1,(mm c hc).2.2.2,(mm d hd).1]
 all_goals first|decide|simp
theorem mix_unmix {v:Bytes} (h:B16 v):mix [2,3,1,1] (mix [14,11,13,9] v)=v:=by
 obtain ⟨hl,hb⟩:=h
 match v,hl with
 | [x0,x1,x2,x3,x4,x5,x6,x7,x8,x9,x10,x11,x12,x13,x14,x15],_=>
  have h0:=hb x0 (by simp);have h1:=hb x1 (by simp);have h2:=hb x2 (by simp);have h3:=hb x3 (by simp)
  have h4:=hb x4 (by simp);have h5:=hb x5 (by simp);have h6:=hb x6 (by simp);have h7:=hb x7 (by simp)
  have h8:=hb x8 (by simp);have h9:=hb x9 (by simp);have h10:=hb x10 (by simp);have h11:=hb x11 (by simp)
  have h12:=hb x12 (by simp);have h13:=hb x13 (by simp);have h14:=hb x14 (by simp);have h15:=hb x15 (by simp)
  refine Eq.trans (b:=[_,_,_,_,_,_,_,_,_,_,_,_,_,_,_,_]) rfl ?_
  exact congr (congrArg List.cons (col0 h0 h1 h2 h3)) (congr (congrArg List.cons (col1 h0 h1 h2 h3)) (congr (congrArg List.cons (col2 h0 h1 h2 h3)) (congr (congrArg List.cons (col3 h0 h1 h2 h3))
   (congr (congrArg List.cons (col0 h4 h5 h6 h7)) (congr (congrArg List.cons (col1 h4 h5 h6 h7)) (congr (congrArg List.cons (col2 h4 h5 h6 h7)) (congr (congrArg List.cons (col3 h4 h5 h6 h7))
   (congr (congrArg List.cons (col0 h8 h9 h10 h11)) (congr (congrArg List.cons (col1 h8 h9 h10 h11)) (congr (congrArg List.cons (col2 h8 h9 h10 h11)) (congr (congrArg List.cons (col3 h8 h9 h10 h11))
   (congr (congrArg List.cons (col0 h12 h13 h14 h15)) (congr (congrArg List.cons (col1 h12 h13 h14 h15)) (congr (congrArg List.cons (col2 h12 h13 h14 h15)) (congr (congrArg List.cons (col3 h12 h13 h14 h15)) rfl)))))))))))))))
theorem foldl_xor_lt {f:Nat→Nat} {l:List Nat} (h:∀j∈l,f j<256):∀{s:Nat},s<256→l.foldl (fun (s j:Nat)=>s ^^^ f j) s<256:=by
 induction l with
 | nil=>intro s hs;exact hs
 | cons j l ih=>
  intro s hs
  exact ih (fun k hk=>h k (List.mem_cons_of_mem _ hk)) (Zw hs (h j (by simp)))
theorem unmix_16 {v:Bytes} (h:B16 v):B16 (mix [14,11,13,9] v):=by
 refine ⟨mix_length _ _,fun x hx=>?_⟩
 unfold mix at hx
 obtain ⟨i,_,rfl⟩:=List.mem_map.mp hx
 refine foldl_xor_lt (fun j _=>product_lt (Yo h.lt (by decide)) (Yo ?_ (by decide))) (by decide)
 intro y hy
 simp only[List.mem_cons,List.not_mem_nil,or_false] at hy
 rcases hy with rfl|rfl|rfl|rfl<;>decide
theorem xor_cancel:∀{a b:Bytes},a.length≤b.length→Md33.xor (Md33.xor a b) b=a
 | [],_,_=>rfl
 | x::a,[],h=>by simp at h
 | x::a,y::b,h=>by
  show (x ^^^ y ^^^ y)::Md33.xor (Md33.xor a b) b=x::a
  rw[xor_cancel (by simpa using h),Nat.xor_assoc,Nat.xor_self,Nat.xor_zero]
def turnsO (k c:Bytes) (n:Nat):Bytes:=(List.range n).foldl (fun (s:Bytes) (i:Nat)=>mix [14,11,13,9] (Md33.xor ((unshifted s).map backN) (roundK k (9-i)))) (Md33.xor c (roundK k 10))
theorem turnsO_succ (k c:Bytes) (n:Nat):turnsO k c (n+1)=mix [14,11,13,9] (Md33.xor ((unshifted (turnsO k c n)).map backN) (roundK k (9-n))):=by
 unfold turnsO
 rw[List.range_succ,List.foldl_append];rfl
theorem openBlock_eq (k c:Bytes):openBlock (wordsOf k) c=Md33.xor ((unshifted (turnsO k c 9)).map backN) (roundK k 0):=rfl
theorem Xf {k c:Bytes} (hk:B16 k) (hc:B16 c):∀n:Nat,B16 (turnsO k c n)
 | 0=>hc.xor (hk.round (by omega))
 | n+1=>by
  rw[turnsO_succ]
  exact unmix_16 ((back_16 (Yw (Xf hk hc n))).xor (hk.round (by omega)))
theorem openBlock_16 {k c:Bytes} (hk:B16 k) (hc:B16 c):B16 (openBlock (wordsOf k) c):=by
 rw[openBlock_eq]
 exact (back_16 (Yw (Xf hk hc 9))).xor (hk.round (by omega))
theorem meet {k c:Bytes} (hk:B16 k) (hc:B16 c):∀i:Nat,i≤9→turnsS k (openBlock (wordsOf k) c) i=(unshifted (turnsO k c (9-i))).map backN
 | 0,_=>by
  rw[turnsS_zero,openBlock_eq]
  exact xor_cancel (by rw[(back_16 (Yw (Xf hk hc 9))).len,(hk.round (by omega)).len];exact Nat.le_refl _)
 | i+1,h=>by
  rw[turnsS_succ,meet hk hc i (by omega),map_sub_back (Yw (Xf hk hc _)).lt,shifted_unshifted (Xf hk hc _).len]
  have e:9-i=(9-(i+1))+1:=by omega
  rw[e,turnsO_succ]
  have e2:9-(9-(i+1))=i+1:=by omega
  rw[e2]
  have h16:=(back_16 (Yw (Xf hk hc (9-(i+1)))))
  rw[mix_unmix (h16.xor (hk.round (by omega)))]
  exact xor_cancel (by rw[h16.len,(hk.round (by omega)).len];exact Nat.le_refl _)
theorem shut_open {k c:Bytes} (hk:B16 k) (hc:B16 c):shutBlock (wordsOf k) (openBlock (wordsOf k) c)=c:=by
 rw[shutBlock_eq,meet hk hc 9 (by omega),map_sub_back (Yw (Xf hk hc _)).lt,shifted_unshifted (Xf hk hc _).len]
 exact xor_cancel (by rw[hc.len,(hk.round (by omega)).len];exact Nat.le_refl _)
theorem openFrom_all {k:Bytes} (hk:B16 k):∀(n:Nat) {s b:Bytes},B16 s→b.length=16*n→(∀x∈b,x<256)→(openFrom (wordsOf k) n s b).length=16*n∧(∀x∈openFrom (wordsOf k) n s b,x<256)∧shutFrom (wordsOf k) n s (openFrom (wordsOf k) n s b)=b
 | 0,_,b,_,hl,_=>⟨rfl,(fun x h=>by cases h),(List.eq_nil_of_length_eq_zero hl).symm⟩
 | n+1,s,b,hs,hl,hb=>by
  have h16:B16 (b.take 16):=⟨by rw[List.length_take];omega,fun x hx=>hb x (List.mem_of_mem_take hx)⟩
  have ho:=openBlock_16 hk h16
  have hx:=ho.xor hs
  obtain ⟨h1,h2,h3⟩:=openFrom_all hk n h16 (b:=b.drop 16) (by rw[List.length_drop];omega) fun x hx=>hb x (List.mem_of_mem_drop hx)
  have e:openFrom (wordsOf k) (n+1) s b=Md33.xor (openBlock (wordsOf k) (b.take 16)) s++openFrom (wordsOf k) n (b.take 16) (b.drop 16):=rfl
  rw[e]
  refine ⟨by rw[List.length_append,hx.len,h1];omega,fun x h=>?_,?_⟩
  ·rcases List.mem_append.mp h with h|h
   ·exact hx.lt x h
   ·exact h2 x h
  ·show shutBlock (wordsOf k) (Md33.xor (List.take 16 (Md33.xor (openBlock (wordsOf k) (b.take 16)) s++openFrom (wordsOf k) n (b.take 16) (b.drop 16))) s)++shutFrom (wordsOf k) n _ (List.drop 16 (Md33.xor (openBlock (wordsOf k) (b.take 16)) s++openFrom (wordsOf k) n (b.take 16) (b.drop 16)))=b
   have e1:List.take 16 (Md33.xor (openBlock (wordsOf k) (b.take 16)) s++openFrom (wordsOf k) n (b.take 16) (b.drop 16))=Md33.xor (openBlock (wordsOf k) (b.take 16)) s:=by
    rw[List.take_append_of_le_length (by rw[hx.len];exact Nat.le_refl _),List.take_of_length_le (by rw[hx.len];exact Nat.le_refl _)]
   have e2:List.drop 16 (Md33.xor (openBlock (wordsOf k) (b.take 16)) s++openFrom (wordsOf k) n (b.take 16) (b.drop 16))=openFrom (wordsOf k) n (b.take 16) (b.drop 16):=by
    rw[List.drop_append_of_le_length (by rw[hx.len];exact Nat.le_refl _),List.drop_of_length_le (by rw[hx.len];exact Nat.le_refl _),List.nil_append]
   rw[e1,e2,xor_cancel (by rw[ho.len,hs.len];exact Nat.le_refl _),shut_open hk h16,h3]
   exact List.take_append_drop 16 b
theorem openText_all {key:Option Bytes} (hk:∀k,key=some k→B16 k) {s b:Bytes} (hs:∀x∈s,x<256) (hs16:16≤s.length) {n:Nat} (hb:∀x∈b,x<256) (hl:b.length=16*n):
  (openText key s b).length=16*n∧(∀x∈openText key s b,x<256)∧shutText key s (openText key s b)=b:=by
 cases key with
 | none=>exact ⟨hl,hb,rfl⟩
 | some k=>
  have e:openText (some k) s b=openFrom (wordsOf k) n (s.take 16) b:=by
   show openFrom (wordsOf k) (b.length/16) (s.take 16) b=_
   rw[hl,Nat.mul_div_cancel_left _ (by decide)]
  obtain ⟨h1,h2,h3⟩:=openFrom_all (hk k rfl) n (key16 hs hs16) hl hb
  rw[e]
  refine ⟨h1,h2,?_⟩
  show shutFrom (wordsOf k) ((openFrom (wordsOf k) n (s.take 16) b).length/16) (s.take 16) _=b
  rw[h1,Nat.mul_div_cancel_left _ (by decide)]
  exact h3
theorem low_succ (k n:Nat):low (k+1) n=n%256::low k (n/256):=by
 unfold low
 rw[List.range_succ_eq_map,List.map_cons,List.map_map]
 simp only[Nat.pow_zero,Nat.div_one]
 congr 1
 apply List.map_congr_left
 intro i _
 show n/256^(i+1)%256=n/256/256^i%256
 rw[Nat.pow_succ,Nat.mul_comm,Nat.div_div_eq_div_mul]
theorem low_ofLow:∀{l:Bytes},(∀x∈l,x<256)→low l.length (ofLow l)=l
 | [],_=>rfl
 | x::l,h=>by
  have hx:=h x (by simp)
  show low (l.length+1) (x+256*ofLow l)=x::l
  rw[low_succ]
  have e1:(x+256*ofLow l)%256=x:=by omega
  have e2:(x+256*ofLow l)/256=ofLow l:=by omega
  rw[e1,e2,low_ofLow fun y hy=>h y (List.mem_cons_of_mem _ hy)]
theorem ofLow_lt:∀{l:Bytes},(∀x∈l,x<256)→ofLow l<256^l.length
 | [],_=>by decide
 | x::l,h=>by
  have hx:=h x (by simp)
  have ih:=ofLow_lt fun y hy=>h y (List.mem_cons_of_mem _ hy)
  show x+256*ofLow l<256^(l.length+1)
  rw[Nat.pow_succ]
  omega
theorem entryOf_plain {b:Bytes} {e:Entry} (hb:∀x∈b,x<256) (h:entryOf b=some e):e.plain=b∧e.fits:=by
 unfold entryOf at h
 split at h
 ·rename_i kind n r
  split at h
  ·rename_i hc
   obtain ⟨h1,h2,h3,h4⟩:=hc
   have e:=Option.some.inj h
   subst e
   refine ⟨?_,?_⟩
   ·show 1::kind::(r.take n).length::(r.take n++r.drop n)=1::kind::n::r
    rw[List.take_append_drop,List.length_take,Nat.min_eq_left h3]
   ·refine ⟨hb kind (by simp),fun x hx=>hb x (by simp[List.mem_of_mem_take hx]),fun x hx=>hb x (by simp[List.mem_of_mem_drop hx]),?_,?_,?_⟩
    ·rw[List.length_take];omega
    ·rw[List.length_take];omega
    ·rw[List.length_drop];omega
  ·cases h
 ·rename_i n r
  split at h
  ·rename_i hc
   obtain ⟨h1,h2,h3⟩:=hc
   have e:=Option.some.inj h
   subst e
   refine ⟨?_,fun x hx=>hb x (by simp[hx]),by omega,by omega⟩
   show 2::r.length::r=2::n::r
   rw[h3]
  ·cases h
 ·rename_i a b c d
  have e:=Option.some.inj h
  subst e
  have h4:∀x∈[a,b,c,d],x<256:=fun x hx=>hb x (List.mem_cons_of_mem _ hx)
  refine ⟨?_,?_⟩
  ·show 3::low 4 (ofLow [a,b,c,d])=[3,a,b,c,d]
   exact congrArg _ (low_ofLow h4)
  ·exact Nat.lt_of_lt_of_le (ofLow_lt h4) (show 256^4≤2^32 by decide)
 ·cases h
theorem filled_of {p:Bytes} {l n:Nat} (hl:p.length=16*n) (hn:n=blocks l) (hz:(p.drop l).any (fun (x:Nat)=>x != 0)=false):filled (p.take l)=p:=by
 have hle:l≤p.length:=by rw[hl,hn];unfold blocks;omega
 unfold filled
 rw[List.length_take,Nat.min_eq_left hle]
 have e:p.drop l=List.replicate (16*blocks l-l) 0:=by
  refine List.eq_replicate_iff.mpr ⟨by rw[List.length_drop,hl,hn],fun x hx=>?_⟩
  have:=List.any_eq_false.mp hz x hx
  simpa using this
 rw[← e,List.take_append_drop]
theorem nextOf_ok {b c:Book} {r:Bytes} {m:Nat} (g:Good b) (hr:∀x∈r,x<256) (h:nextOf b r=.ok (c,m)):
  ∃e:Entry,e.fits∧added b e=some c∧m≤r.length∧m=Qu e.plain.length∧written b.key b.last (b.count+1) e=r.take m:=by
 unfold nextOf at h
 split at h
 ·cases h
 split at h
 ·cases h
 rename_i h8
 dsimp only at h
 split at h
 ·cases h
 rename_i hP
 split at h
 ·cases h
 rename_i hlen
 split at h
 ·cases h
 rename_i hsum
 split at h
 ·cases h
 rename_i hnum
 cases q:(entryOf ((openText b.key b.last ((r.take (8+16*blocks (ofLow (r.take 4)))).drop 8)).take (ofLow (r.take 4)))).bind (added b) with
 | none=>rw[q] at h;cases h
 | some c'=>
  rw[q] at h
  have e:=Except.ok.inj h
  have e1:c'=c:=congrArg Prod.fst e
  have e2:8+16*blocks (ofLow (r.take 4))+20=m:=congrArg Prod.snd e
  subst e1
  obtain ⟨en,h1,h2⟩:=Option.bind_eq_some_iff.mp q
  have hl:=last_length g.len
  generalize hL:ofLow (r.take 4)=l at *
  have ht:(r.take (8+16*blocks l)).length=8+16*blocks l:=by rw[List.length_take];omega
  have htx:((r.take (8+16*blocks l)).drop 8).length=16*blocks l:=by rw[List.length_drop,ht];omega
  have hbt:∀x∈(r.take (8+16*blocks l)).drop 8,x<256:=fun x hx=>hr x (List.mem_of_mem_take (List.mem_of_mem_drop hx))
  obtain ⟨o1,o2,o3⟩:=openText_all g.key (s:=b.last) (last_lt g.byt) (by omega) hbt htx
  have hnum':ofLow ((r.drop 4).take 4)=b.count+1∧((openText b.key b.last ((r.take (8+16*blocks l)).drop 8)).drop l).any (fun (x:Nat)=>x != 0)=false:=by
   constructor
   ·exact Classical.byContradiction fun z=>hnum (.inl z)
   ·exact Bool.eq_false_iff.mpr fun z=>hnum (.inr z)
  have hfill:=filled_of o1 rfl hnum'.2
  obtain ⟨p1,p2⟩:=entryOf_plain (fun x hx=>o2 x (List.mem_of_mem_take hx)) h1
  have hple:l≤16*blocks l:=by unfold blocks;omega
  have hpl:en.plain.length=l:=by rw[p1,List.length_take,o1,Nat.min_eq_left hple]
  refine ⟨en,p2,h2,by omega,by rw[hpl];unfold Qu;omega,?_⟩
  have r4:(r.take 4).length=4:=by rw[List.length_take];omega
  have r44:((r.drop 4).take 4).length=4:=by rw[List.length_take,List.length_drop];omega
  have a1:low 4 l=r.take 4:=by
   have:=low_ofLow (l:=r.take 4) fun x hx=>hr x (List.mem_of_mem_take hx)
   rw[r4,hL] at this
   exact this
  have a2:low 4 (b.count+1)=(r.drop 4).take 4:=by
   have:=low_ofLow (l:=(r.drop 4).take 4) fun x hx=>hr x (List.mem_of_mem_drop (List.mem_of_mem_take hx))
   rw[r44,hnum'.1] at this
   exact this
  have a3:low 4 l++(low 4 (b.count+1)++shutText b.key b.last (filled en.plain))=r.take (8+16*blocks l):=by
   rw[a1,a2,p1,hfill,o3]
   have s1:r.take 4=(r.take (8+16*blocks l)).take 4:=by rw[List.take_take,Nat.min_eq_left (by omega)]
   have s2:(r.drop 4).take 4=((r.take (8+16*blocks l)).drop 4).take 4:=by
    rw[List.drop_take,List.take_take,Nat.min_eq_left (by omega)]
   rw[s1,s2]
   have s3:(r.take (8+16*blocks l)).drop 8=((r.take (8+16*blocks l)).drop 4).drop 4:=by rw[List.drop_drop]
   rw[s3,List.take_append_drop,List.take_append_drop]
  have hs:(r.drop (8+16*blocks l)).take 20=sum (b.last++r.take (8+16*blocks l)):=Classical.byContradiction fun z=>hsum z
  unfold written
  dsimp only
  rw[hpl,a3,← hs,← e2]
  exact (List.take_add (l:=r) (i:=8+16*blocks l) (j:=20)).symm
theorem added_bytes {b c:Book} {e:Entry} (h:added b e=some c):c.bytes=b.bytes++written b.key b.last (b.count+1) e∧c.key=b.key∧c.salt=b.salt:=by
 obtain ⟨s,_,rfl⟩:=added_some h
 exact ⟨rfl,rfl,rfl⟩
theorem takes_good:∀(k:Nat) {b c:Book} {r:Bytes} {why:Nat},Good b→(∀x∈r,x<256)→takes k b r=(c,why)→Good c∧c.bytes.length≤b.bytes.length+r.length
 | 0,b,c,r,why,g,_,h=>by
  have e:b=c:=congrArg Prod.fst h
  subst e
  exact ⟨g,by omega⟩
 | k+1,b,c,r,why,g,hr,h=>by
  have h:(match nextOf b r with|.error why=>(b,why)|.ok (c,n)=>takes k c (r.drop n))=(c,why):=h
  cases q:nextOf b r with
  | error w=>
   rw[q] at h
   have e:b=c:=congrArg Prod.fst h
   subst e
   exact ⟨g,by omega⟩
  | ok x=>
   obtain ⟨d,m⟩:=x
   rw[q] at h
   obtain ⟨e,h1,h2,h3,h4,h5⟩:=nextOf_ok g hr q
   obtain ⟨g2,_,l2⟩:=good_added g h1 h2
   obtain ⟨g3,l3⟩:=takes_good k g2 (fun x hx=>hr x (List.mem_of_mem_drop hx)) h
   refine ⟨g3,?_⟩
   rw[List.length_drop] at l3
   omega
theorem mem_replay1 {rs:List Record} (hs:Sorted rs) {x:Nat×Entry} {r:Record} (h:r∈replay1 rs x):r∈rs∨x=(r.number,.put r.kind r.name r.body):=by
 obtain ⟨n,e⟩:=x
 cases e with
 | put kind name body=>
  rcases (Ja _ hs).mp h with h|⟨h,_⟩
  ·subst h;exact .inr rfl
  ·exact .inl h
 | drop name=>exact .inl (List.mem_filter.mp h).1
 | back k=>exact .inl h
theorem mem_fold:∀(w:List (Nat×Entry)) {rs:List Record},Sorted rs→∀{r:Record},r∈w.foldl replay1 rs→r∈rs∨(r.number,.put r.kind r.name r.body)∈w
 | [],_,_,_,h=>.inl h
 | x::w,rs,hs,r,h=>by
  rcases mem_fold w (sorted_replay1 hs x) h with h|h
  ·rcases mem_replay1 hs h with h|h
   ·exact .inl h
   ·exact .inr (by rw[← h];simp)
  ·exact .inr (List.mem_cons_of_mem _ h)
theorem mem_replay {w:List (Nat×Entry)} {r:Record} (h:r∈replay w):(r.number,.put r.kind r.name r.body)∈w:=by
 rcases mem_fold w sorted_nil h with h|h
 ·cases h
 ·exact h
theorem rec_fits {n m:Nat} {st:Stand} (g:GoodS n m st) {r:Record} (h:r∈st.records):(Entry.put r.kind r.name r.body).fits∧1≤r.number∧r.number≤n:=by
 rw[g.rcs] at h
 have:=g.ents _ (mem_replay h)
 exact ⟨this.2.2.1,this.1,this.2.1⟩
def sqStep (c:Book) (r:Record):Book:=(added c (.put r.kind r.name r.body)).getD c
def sqTo (b:Book) (i:Nat):Book:=(b.stand.records.take i).foldl sqStep (begun b.key b.salt)
theorem squeezed_eq (b:Book):squeezed b=sqTo b b.stand.records.length:=by
 unfold sqTo
 rw[List.take_length];rfl
theorem added_put (c:Book) (kind:Nat) (name body:Bytes):∃d,added c (.put kind name body)=some d:=⟨_,rfl⟩
theorem sqTo_succ {b:Book} {i:Nat} {r:Record} (h:b.stand.records[i]?=some r):added (sqTo b i) (.put r.kind r.name r.body)=some (sqTo b (i+1)):=by
 have e:sqTo b (i+1)=sqStep (sqTo b i) r:=by
  unfold sqTo
  rw[List.take_add_one,h,List.foldl_append]
  rfl
 obtain ⟨d,hd⟩:=added_put (sqTo b i) r.kind r.name r.body
 rw[e]
 unfold sqStep
 rw[hd];rfl
theorem sqTo_good {b:Book} (g:Good b):∀i:Nat,i≤b.stand.records.length→Good (sqTo b i)∧(sqTo b i).count=i∧(sqTo b i).bytes.length=44+weight (b.stand.records.take i)
 | 0,_=>⟨good_begun g.key g.salt,rfl,by
   show (headOf b.key b.salt).length=44+0
   exact (J4 g.key g.salt).1⟩
 | i+1,h=>by
  obtain ⟨g1,c1,l1⟩:=sqTo_good g i (by omega)
  have hi:i<b.stand.records.length:=by omega
  have hr:b.stand.records[i]?=some (b.stand.records[i]'hi):=List.getElem?_eq_getElem hi
  have hf:=(rec_fits (g.st _ (Yb g.ne)) (List.getElem_mem hi)).1
  obtain ⟨g2,c2,l2⟩:=good_added g1 hf (sqTo_succ hr)
  refine ⟨g2,by omega,?_⟩
  rw[l2,l1,plain_put,List.take_add_one,hr]
  simp only[weight,List.map_append,List.sum_append,Option.toList_some,List.map_cons,List.map_nil,List.sum_cons,List.sum_nil]
  show _=44+(_+(Qu (3+_+_)+0))
  omega
theorem weight_take (l:List Record):∀i:Nat,weight (l.take i)≤weight l:=by
 induction l with
 | nil=>intro i;simp[weight]
 | cons r l ih=>
  intro i
  cases i with
  | zero=>simp[weight]
  | succ i=>
   rw[List.take_succ_cons,Ya,Ya]
   have:=ih i
   omega
theorem sqTo_len {b:Book} (g:Good b) {i:Nat} (h:i≤b.stand.records.length):(sqTo b i).bytes.length≤b.bytes.length:=by
 have h1:=(sqTo_good g i h).2.2
 have h2:=(g.st _ (Yb g.ne)).wt
 have h3:=weight_take b.stand.records i
 omega
theorem sqTo_key {b:Book} (i:Nat):(sqTo b i).key=b.key∧(sqTo b i).salt=b.salt:=by
 unfold sqTo
 generalize hl:b.stand.records.take i=l
 clear hl
 have:∀(l:List Record) (c:Book),(l.foldl sqStep c).key=c.key∧(l.foldl sqStep c).salt=c.salt:=by
  intro l
  induction l with
  | nil=>intro c;exact ⟨rfl,rfl⟩
  | cons r l ih=>intro c;exact ⟨(ih (sqStep c r)).1,(ih (sqStep c r)).2⟩
 exact this l (begun b.key b.salt)
end Kb
namespace Kb
def encRow (x:List Int):List Int:=(x.length:Int)::x
def encC:List (List Int)→List Int
 | (p::ns)::xs=>p::(ns.length:Int)::(ns++((xs.length:Int)::xs.flatMap encRow))
 | _=>[]
theorem row_shape {l x t:List Int} (h:PyFlat.row l=some (x,t)):l=encRow x++t:=by
 cases l with
 | nil=>cases h
 | cons n r=>
  have h:(if 0≤n∧n.toNat≤r.length then some (r.take n.toNat,r.drop n.toNat) else none)=some (x,t):=h
  split at h
  ·rename_i hc
   have e:=Option.some.inj h
   have e1:r.take n.toNat=x:=congrArg Prod.fst e
   have e2:r.drop n.toNat=t:=congrArg Prod.snd e
   have e3:n=(x.length:Int):=by rw[← e1,List.length_take];omega
   rw[encRow,← e3,← e1,← e2,List.cons_append,List.take_append_drop]
  ·cases h
theorem rows_shape:∀(k:Nat) {l t:List Int} {xs:List (List Int)},PyFlat.rows k l=some (xs,t)→xs.length=k∧l=xs.flatMap encRow++t
 | 0,l,t,xs,h=>by
  have e:=Option.some.inj (show some (([]:List (List Int)),l)=some (xs,t) from h)
  have e1:[]=xs:=congrArg Prod.fst e
  have e2:l=t:=congrArg Prod.snd e
  subst e1;subst e2
  exact ⟨rfl,rfl⟩
 | k+1,l,t,xs,h=>by
  unfold PyFlat.rows at h
  cases q:PyFlat.row l with
  | none=>rw[q] at h;cases h
  | some y=>
   obtain ⟨x,s⟩:=y
   rw[q] at h
   dsimp only at h
   cases q2:PyFlat.rows k s with
   | none=>rw[q2] at h;cases h
   | some z=>
    obtain ⟨ys,u⟩:=z
    rw[q2] at h
    have e:=Option.some.inj h
    have e1:x::ys=xs:=congrArg Prod.fst e
    have e2:u=t:=congrArg Prod.snd e
    obtain ⟨h1,h2⟩:=rows_shape k q2
    subst e1;subst e2
    refine ⟨by rw[List.length_cons,h1],?_⟩
    rw[row_shape q,h2,List.flatMap_cons,List.append_assoc]
theorem call_shape {l t:List Int} {c:List (List Int)} (h:PyWide.call l=some (c,t)):(∃p ns xs,c=(p::ns)::xs)∧l=encC c++t:=by
 cases l with
 | nil=>cases h
 | cons p r=>
  unfold PyWide.call at h
  dsimp only at h
  split at h
  ·cases h
  ·cases h
  ·rename_i ns k u q
   split at h
   ·rename_i hk
    cases q2:PyFlat.rows k.toNat u with
    | none=>rw[q2] at h;cases h
    | some z=>
     obtain ⟨xs,v⟩:=z
     rw[q2] at h
     have e:=Option.some.inj h
     have e1:(p::ns)::xs=c:=congrArg Prod.fst e
     have e2:v=t:=congrArg Prod.snd e
     obtain ⟨h1,h2⟩:=rows_shape _ q2
     subst e1;subst e2
     refine ⟨⟨p,ns,xs,rfl⟩,?_⟩
     have ek:k=(xs.length:Int):=by omega
     have er:=row_shape q
     rw[er,h2,ek]
     simp[encC,encRow]
   ·cases h
theorem calls_shape:∀(f:Nat) {l:List Int} {cs:List (List (List Int))},PyWide.calls f l=some cs→(∀c∈cs,∃p ns xs,c=(p::ns)::xs)∧l=cs.flatMap encC
 | f,[],cs,h=>by
  have e:[]=cs:=by
   cases f with
   | zero=>exact Option.some.inj (show some []=some cs from h)
   | succ f=>exact Option.some.inj (show some []=some cs from h)
  subst e
  exact ⟨(fun c hc=>by cases hc),rfl⟩
 | 0,_::_,_,h=>by cases h
 | f+1,p::r,cs,h=>by
  unfold PyWide.calls at h
  cases q:PyWide.call (p::r) with
  | none=>rw[q] at h;cases h
  | some y=>
   obtain ⟨c,t⟩:=y
   rw[q] at h
   dsimp only at h
   cases q2:PyWide.calls f t with
   | none=>rw[q2] at h;cases h
   | some ds=>
    rw[q2] at h
    have e:c::ds=cs:=Option.some.inj h
    obtain ⟨h1,h2⟩:=calls_shape f q2
    obtain ⟨h3,h4⟩:=call_shape q
    subst e
    refine ⟨fun x hx=>?_,?_⟩
    ·rcases List.mem_cons.mp hx with e|hx
     ·rw[e];exact h3
     ·exact h1 x hx
    ·rw[h4,h2,List.flatMap_cons]
end Kb
namespace L2
open PySem PySem.Spec PyProof.Rows
abbrev Key:=Sum Int Str
def keyIs:Key→Value→Bool
 | .inl k,v=>Value.isInt k v
 | .inr x,v=>Value.isStrOf x v
def keyH (w:World):Key→Int
 | .inl k=>hashInt k
 | .inr x=>hashStr w x
theorem Y0:∀{k:Key} {v:Value},keyIs k v=true→(∃i t,k=Sum.inl i∧v=Value.int i t)∨(∃x t,k=Sum.inr x∧v=Value.str x t)
 | .inl i,v,h=>by
  obtain ⟨t,e⟩:=Value.isInt_shape (k:=i) (v:=v) h
  exact .inl ⟨i,t,rfl,e⟩
 | .inr x,v,h=>by
  obtain ⟨t,e⟩:=Value.isStrOf_shape (x:=x) (v:=v) h
  exact .inr ⟨x,t,rfl,e⟩
theorem keyIs_int (i:Int) (t:Tok):keyIs (.inl i) (.int i t)=true:=by simp[keyIs,Value.isInt]
theorem keyIs_str (x:Str) (t:Tok):keyIs (.inr x) (.str x t)=true:=by simp[keyIs,Value.isStrOf]
theorem key_ll (a b:Int):decide ((Sum.inl a:Key)=Sum.inl b)=(a==b):=by
 by_cases e:a=b
 ·subst e;simp
 ·have h:¬ (Sum.inl a:Key)=Sum.inl b:=fun q=>e (Sum.inl.inj q)
  rw[decide_eq_false h]
  exact (beq_eq_false_iff_ne.mpr e).symm
theorem key_rr (a b:Str):decide ((Sum.inr a:Key)=Sum.inr b)=decide (a=b):=by
 by_cases e:a=b
 ·subst e;simp
 ·have h:¬ (Sum.inr a:Key)=Sum.inr b:=fun q=>e (Sum.inr.inj q)
  rw[decide_eq_false h,decide_eq_false e]
theorem key_lr (a:Int) (b:Str):decide ((Sum.inl a:Key)=Sum.inr b)=false:=decide_eq_false (fun q=>nomatch q)
theorem key_rl (a:Str) (b:Int):decide ((Sum.inr a:Key)=Sum.inl b)=false:=decide_eq_false (fun q=>nomatch q)
def Qx (prog:Program) (w:World):PySem.KeyKind prog w Key where
 is:=keyIs
 hash:=keyH w
 inj:=fun v a b ha hb=>by
  rcases Y0 ha with ⟨i,t,rfl,rfl⟩|⟨x,t,rfl,rfl⟩
  ·rcases Y0 hb with ⟨j,u,rfl,e⟩|⟨y,u,rfl,e⟩
   ·injection e with e1 _;rw[e1]
   ·exact nomatch e
  ·rcases Y0 hb with ⟨j,u,rfl,e⟩|⟨y,u,rfl,e⟩
   ·exact nomatch e
   ·injection e with e1 _;rw[e1]
 byValue:=fun k v h=>by
  rcases Y0 h with ⟨i,t,rfl,rfl⟩|⟨x,t,rfl,rfl⟩<;>rfl
 pyHash:=fun hv h=>by
  rcases Y0 hv with ⟨i,t,rfl,rfl⟩|⟨x,t,rfl,rfl⟩
  ·exact wpAny_pyHash_int h
  ·exact wpAny_pyHash_str h
 eqBool:=fun hu hv h=>by
  rcases Y0 hu with ⟨i,t,rfl,rfl⟩|⟨x,t,rfl,rfl⟩
  ·rcases Y0 hv with ⟨j,u,rfl,rfl⟩|⟨y,u,rfl,rfl⟩
   ·rw[key_ll] at h;exact wpAny_eqBool_int h
   ·rw[key_lr] at h;exact SeqAt.EqAt.int_str i t y u _ _ _ _ h
  ·rcases Y0 hv with ⟨j,u,rfl,rfl⟩|⟨y,u,rfl,rfl⟩
   ·rw[key_rl] at h;exact SeqAt.EqAt.str_int x t j u _ _ _ _ h
   ·rw[key_rr] at h;exact wpAny_eqBool_str h
 «strs»:=fun k x t v h=>by
  rcases Y0 h with ⟨i,u,rfl,e⟩|⟨y,u,rfl,e⟩
  ·exact nomatch e
  ·injection e with e1 _
   subst e1
   cases v<;>rfl
theorem mixKind_int (prog:Program) (w:World) (i:Int) (t:Tok):(Qx prog w).is (.inl i) (.int i t)=true:=keyIs_int i t
theorem mixKind_str (prog:Program) (w:World) (x:Str) (t:Tok):(Qx prog w).is (.inr x) (.str x t)=true:=keyIs_str x t
inductive V where
 | non|bl (b:Bool)|int (i:Int)|str (x:Str)|byt (b:Array UInt8)|flt (b:UInt64)|ref (a:Addr)|ty (n:String)
 deriving DecidableEq
def RelV:V→Value→Prop
 | .non,u=>u=Value.none
 | .bl b,u=>u=Value.bool b
 | .int i,u=>∃t,u=Value.int i t
 | .str x,u=>∃t,u=Value.str x t
 | .byt b,u=>∃t,u=Value.bytes b t
 | .flt b,u=>∃t,u=Value.float b t
 | .ref a,u=>u=Value.ref a
 | .ty n,u=>u=Value.type n
abbrev Vals:List V→List Value→Prop:=Paired RelV
theorem Vals.length {xs:List V} {us:List Value} (r:Vals xs us):xs.length=us.length:=Paired.length r
theorem Vals.get:∀{xs:List V} {us:List Value} {i:Nat} {x:V},Vals xs us→xs[i]?=some x→∃u,us[i]?=some u∧RelV x u
 | _,_,_,_,.nil,e=>by simp at e
 | _,_,0,_,.cons r _,e=>by simp at e;subst e;exact ⟨_,rfl,r⟩
 | _,_,i+1,x,.cons _ t,e=>by
  obtain ⟨u,h1,h2⟩:=Vals.get (i:=i) (x:=x) t (by simpa using e)
  exact ⟨u,by simpa using h1,h2⟩
theorem Vals.set {x:V} {u:Value} (r:RelV x u):∀{xs:List V} {us:List Value} (i:Nat),Vals xs us→Vals (xs.set i x) (us.set i u)
 | _,_,_,.nil=>.nil
 | _,_,0,.cons _ t=>.cons r t
 | _,_,i+1,.cons q t=>.cons q (Vals.set r i t)
theorem Vals.append:∀{xs ys:List V} {us ws:List Value},Vals xs us→Vals ys ws→Vals (xs++ys) (us++ws)
 | _,_,_,_,.nil,s=>s
 | _,_,_,_,.cons r t,s=>.cons r (Vals.append t s)
theorem Vals.take:∀{xs:List V} {us:List Value} (n:Nat),Vals xs us→Vals (xs.take n) (us.take n)
 | _,_,0,_=>.nil
 | _,_,_+1,.nil=>.nil
 | _,_,n+1,.cons r t=>.cons r (Vals.take n t)
theorem Vals.drop:∀{xs:List V} {us:List Value} (n:Nat),Vals xs us→Vals (xs.drop n) (us.drop n)
 | _,_,0,r=>r
 | _,_,_+1,.nil=>.nil
 | _,_,n+1,.cons _ t=>Vals.drop n t
def RelO:Option V→Option Value→Prop
 | some v,some u=>RelV v u
 | none,none=>True
 | _,_=>False
def KV {κ:Type}:List (κ×V)→List (κ×Value)→Prop:=Paired fun (p:κ×V) (q:κ×Value)=>p.1=q.1∧RelV p.2 q.2
def kV:Key→V
 | .inl i=>.int i
 | .inr x=>.str x
inductive HO where
 /-- a list -/
 | lst (xs:List V)
 /-- a tuple (never changes) -/
 | tup (xs:List V)
 /-- a dict whose keys are ints and texts;one whose keys are tuples of ints and texts (the empty one is both) -/
 | dK (kvs:List (Key×V))|dT (kvs:List (List Key×V))
 /-- a set of ints: its members,its size -/
 | set (S:Int→Bool) (n:Nat)
 /-- an instance of the class at C,its dict at dx,its attributes -/
 | ins (C dx:Addr) (fs:List (Str×V))
 /-- the dict of the instance at x -/
 | own (x:Addr)
 /-- the dict of an exception -/
 | xd (fs:List (Str×V))
 /-- a bound method,f of x -/
 | met (f x:Addr)
 /-- a range object lo,lo+1,.. below hi -/
 | rng (lo hi:Int)
 /-- a thing that is known to the object (the script;a dict while a loop walks it): read,never written while it is so -/
 | frz (o:Obj) (u:HO)
 /-- a code object's table -/
 | tbl (ps:Array Value)
 /-- any other thing,by what is true of its one object (a def of one's own: SetO a S n:=HO.ext fun h=>..) -/
 | ext (φ:Heap→Prop)
abbrev Hp:=Addr→Option HO
def upd (H:Hp) (a:Addr) (o:HO):Hp:=fun b=>if b=a then some o else H b
theorem Zc {H:Hp} {a:Addr} {o:HO}:upd H a o a=some o:=by unfold upd;rw[if_pos rfl]
theorem Zn {H:Hp} {a b:Addr} {o:HO} (h:b≠a):upd H a o b=H b:=by unfold upd;rw[if_neg h]
theorem Jb {H:Hp} {a:Addr} {o u:HO}:upd (upd H a o) a u=upd H a u:=by
 funext b;unfold upd;split<;>rfl
theorem ne_of {H:Hp} {a b:Addr} {o u:HO} (h:H a=some o) (h':H b=some u) (d:o≠u):a≠b:=by
 intro e;subst e;rw[h] at h';exact d (Option.some.inj h')
theorem Zg {H:Hp} {a b:Addr} {o:HO} (h:H a=some o) (h':H b=none):a≠b:=by
 intro e;subst e;rw[h] at h';cases h'
section
variable (P:Program) (w:World)
def ObjOk (H:Hp) (h:Heap) (a:Addr):HO→Prop
 | .lst xs=>xs.length≤sizeLine∧∃(its:List Value) (n:Nat),Vals xs its∧h.get? a=some { cls:=.type "list",data:=.seq its.toArray n }
 | .tup xs=>xs.length≤sizeLine∧∃its:List Value,Vals xs its∧IsTup h a its.toArray
 | .dK kvs=>kvs.length≤sizeLine∧(a==sysModules)=false∧∃vs,KV kvs vs∧h.DictOf (Qx P w) a vs
 | .dT kvs=>kvs.length≤sizeLine∧(a==sysModules)=false∧∃xs:List (List Key×Addr×Value),
   Paired (fun (p:List Key×V) (q:List Key×Addr×Value)=>p.1=q.1∧H q.2.1=some (.tup (p.1.map kV))∧RelV p.2 q.2.2) kvs xs ∧
   ∃o es ep,h.get? a=some o∧o.ExactDict∧o.data=.dict es ep∧es.toList=xs.map (entryOfKey (tupleKind (Qx P w)))∧(xs.map (·.1)).Nodup
 | .set S n=>h.SetOf (intKind P w) a S n
 | .ins C dx fs=>H dx=some (.own a)∧fs.length≤1000∧dx≠a∧h.get? a=some (PySem.W.instObj C dx) ∧
   ∃mA,h.Ns1 dx mA∧(∀f,RelO (fs.lookup f) (mA f))∧PySem.Within mA (fs.map (·.1))
 | .own _=>∃o,h.get? a=some o
 | .xd fs=>∃mA,h.Ns1 a mA∧∀f,RelO (fs.lookup f) (mA f)
 | .rng lo hi=>∃t u v,h.get? a=some { cls:=.type "range",data:=.fields #[.int lo t,.int hi u,.int 1 v] }
 | .frz o u=>h.get? a=some o∧ObjOk H h a u
 | .tbl ps=>h.get? a=some { cls:=.none,data:=.fields ps }
 | .met f x=>h.get? a=some (PySem.W.methodObj (.ref f) (.ref x))
 | .ext φ=>φ h∧(∃o,h.get? a=some o)∧∀h1 h2:Heap,φ h1→(∀o,h1.get? a=some o→h2.get? a=some o)→φ h2
def HOk (H:Hp) (h:Heap):Prop:=∀a o,H a=some o→ObjOk P w H h a o
end
section
variable {P:Program} {w:World} {H H':Hp} {h h':Heap} {a:Addr} {o:HO}
theorem ObjOk.lt (x:ObjOk P w H h a o):a<h.objs.size:=by
 cases o with
 | lst xs=>obtain ⟨_,_,_,_,e⟩:=x;exact Heap.lt_size e
 | tup xs=>obtain ⟨_,_,_,p⟩:=x;exact p.lt
 | dK kvs=>obtain ⟨_,_,_,_,o,_,_,e,_⟩:=x;exact Heap.lt_size e
 | dT kvs=>obtain ⟨_,_,_,_,o,_,_,e,_⟩:=x;exact Heap.lt_size e
 | set S n=>obtain ⟨o,_,_,_,e,_⟩:=x;exact Heap.lt_size e
 | ins C dx fs=>obtain ⟨_,_,_,e,_⟩:=x;exact Heap.lt_size e
 | own y=>obtain ⟨_,e⟩:=x;exact Heap.lt_size e
 | xd fs=>obtain ⟨_,⟨_,_,_,e,_⟩,_⟩:=x;exact Heap.lt_size e
 | rng lo hi=>obtain ⟨_,_,_,e⟩:=x;exact Heap.lt_size e
 | frz ob u=>obtain ⟨e,_⟩:=x;exact Heap.lt_size e
 | tbl ps=>exact Heap.lt_size (show h.get? a=some _ from x)
 | met f y=>exact Heap.lt_size (show h.get? a=some _ from x)
 | ext φ=>obtain ⟨_,⟨_,e⟩,_⟩:=x;exact Heap.lt_size e
theorem Paired.mapP {α β:Type} {F G:α→β→Prop}:∀{l₁:List α} {l₂:List β},Paired F l₁ l₂→(∀a b,F a b→G a b)→Paired G l₁ l₂
 | _,_,.nil,_=>.nil
 | _,_,.cons r t,f=>.cons (f _ _ r) (Paired.mapP t f)
theorem ObjOk.stay (x:ObjOk P w H h a o) (k:∀b u,(b=a∨H b=some (.own a))→h.get? b=some u→h'.get? b=some u)
  (ho:∀b,H b=some (.own a)→H' b=some (.own a)) (ht:∀b xs,H b=some (.tup xs)→H' b=some (.tup xs)):ObjOk P w H' h' a o:=by
 induction o with
 | lst xs=>obtain ⟨z,its,n,r,e⟩:=x;exact ⟨z,its,n,r,k _ _ (.inl rfl) e⟩
 | tup xs=>obtain ⟨z,its,r,ob,e,c⟩:=x;exact ⟨z,its,r,ob,k _ _ (.inl rfl) e,c⟩
 | dK kvs=>obtain ⟨z,y,vs,r,ob,es,ep,e,c⟩:=x;exact ⟨z,y,vs,r,ob,es,ep,k _ _ (.inl rfl) e,c⟩
 | dT kvs=>
  obtain ⟨z,y,xs,r,ob,es,ep,e,c⟩:=x
  exact ⟨z,y,xs,Paired.mapP r fun p q z=>⟨z.1,ht _ _ z.2.1,z.2.2⟩,ob,es,ep,k _ _ (.inl rfl) e,c⟩
 | set S n=>obtain ⟨ob,es,ep,t,e,c⟩:=x;exact ⟨ob,es,ep,t,k _ _ (.inl rfl) e,c⟩
 | ins C dx fs=>
  obtain ⟨d,z,ne,e,mA,⟨od,es,ep,e2,c⟩,r⟩:=x
  exact ⟨ho _ d,z,ne,k _ _ (.inl rfl) e,mA,⟨od,es,ep,k _ _ (.inr d) e2,c⟩,r⟩
 | own y=>obtain ⟨ob,e⟩:=x;exact ⟨ob,k _ _ (.inl rfl) e⟩
 | xd fs=>obtain ⟨mA,⟨od,es,ep,e,c⟩,r⟩:=x;exact ⟨mA,⟨od,es,ep,k _ _ (.inl rfl) e,c⟩,r⟩
 | rng lo hi=>obtain ⟨t,u,v,e⟩:=x;exact ⟨t,u,v,k _ _ (.inl rfl) e⟩
 | frz ob u ih=>obtain ⟨e,q⟩:=x;exact ⟨k _ _ (.inl rfl) e,ih q⟩
 | tbl ps=>
  have e:h.get? a=some { cls:=.none,data:=.fields ps }:=x
  show h'.get? a=some { cls:=.none,data:=.fields ps }
  exact k a _ (.inl rfl) e
 | met f y=>
  have e:h.get? a=some (PySem.W.methodObj (.ref f) (.ref y)):=x
  show h'.get? a=some (PySem.W.methodObj (.ref f) (.ref y))
  exact k a _ (.inl rfl) e
 | ext φ=>obtain ⟨p,⟨o,e⟩,st⟩:=x;exact ⟨st _ _ p fun o q=>k _ _ (.inl rfl) q,⟨o,k _ _ (.inl rfl) e⟩,st⟩
theorem HOk.lt (x:HOk P w H h) (e:H a=some o):a<h.objs.size:=(x a o e).lt
theorem HOk.fresh (x:HOk P w H h) (e:h.objs.size≤a):H a=none:=by
 cases q:H a with
 | none=>rfl
 | some u=>exact absurd (Nat.lt_of_lt_of_le (x.lt q) e) (Nat.lt_irrefl _)
theorem HOk.kept (x:HOk P w H h) (k:∀b u,h.get? b=some u→h'.get? b=some u):HOk P w H h':=fun a o e=>
 (x a o e).stay (fun b u _ q=>k b u q) (fun _ q=>q) fun _ _ q=>q
theorem HOk.laid (x:HOk P w H h) (k:∀b u,h.get? b=some u→h'.get? b=some u) (hp:h.objs.size≤a) (new:ObjOk P w (upd H a o) h' a o):HOk P w (upd H a o) h':=fun b u e=>by
 have hn:=x.fresh hp
 by_cases hb:b=a
 ·subst hb;rw[Zc] at e;cases e;exact new
 ·rw[Zn hb] at e
  exact (x b u e).stay (fun c v _ q=>k c v q) (fun c q=>by rw[Zn (Zg q hn)];exact q) fun c xs q=>by rw[Zn (Zg q hn)];exact q
end
def Rd (H:Hp) (a:Addr) (u:HO):Prop:=H a=some u∨∃o,H a=some (.frz o u)
theorem Rd.ok {P:Program} {w:World} {H:Hp} {h:Heap} {a:Addr} {u:HO} (r:Rd H a u) (x:HOk P w H h):ObjOk P w H h a u:=by
 rcases r with r|⟨o,r⟩
 ·exact x a u r
 ·obtain ⟨_,q⟩:=x a _ r
  exact q
def Mut:Option HO→Prop
 | some (.lst _)=>True
 | some (.dK _)=>True
 | some (.dT _)=>True
 | some (.set _ _)=>True
 | some (.ins _ _ _)=>True
 | some (.ext _)=>True
 | _=>False
section
variable {P:Program} {w:World} {H:Hp} {h h':Heap} {x e:Addr} {o':HO}
theorem HOk.write (ok:HOk P w H h) (mu:Mut (H x)) (he:e=x∨H e=some (.own x)) (k:∀b u,b≠e→h.get? b=some u→h'.get? b=some u) (heo:∃u,h'.get? e=some u)
  (new:ObjOk P w (upd H x o') h' x o'):HOk P w (upd H x o') h':=fun b u q=>by
 have nown:∀c y,H c=some (.own y)→c≠x:=fun c y r z=>by subst z;rw[r] at mu;exact mu
 have ntup:∀c xs,H c=some (.tup xs)→c≠x:=fun c xs r z=>by subst z;rw[r] at mu;exact mu
 by_cases hb:b=x
 ·subst hb;rw[Zc] at q;cases q;exact new
 ·rw[Zn hb] at q
  by_cases hbe:b=e
  ·have q':H b=some (.own x):=by
    rcases he with z|z
    ·exact absurd (hbe.trans z) hb
    ·rw[hbe];exact z
   rw[q] at q';cases q'
   obtain ⟨v,hv⟩:=heo
   exact ⟨v,by rw[hbe];exact hv⟩
  ·refine (ok b u q).stay (fun c v hc r=>k c v ?_ r) (fun c r=>by rw[Zn (nown c b r)];exact r) fun c xs r=>by rw[Zn (ntup c xs r)];exact r
   rcases hc with rfl|hc
   ·exact hbe
   ·rintro rfl
    rcases he with z|z
    ·exact nown c b hc z
    ·rw[hc] at z;cases z;exact hb rfl
end
structure Un (fs ex:List Addr) (H H':Hp) (h h':Heap):Prop where
 keep:∀b o,h.get? b=some o→H b=none→b∉fs→b∉ex→h'.get? b=some o
 slot:∀b o,h.get? b=some o→H b=none→b∈fs→b∉ex→∃sl,h'.get? b=some { o with slots:=sl }
 free:∀b o,h.get? b=some o→H b=none→b∉ex→H' b=none
 there:∀b o,h.get? b=some o→b∉ex→∃o',h'.get? b=some o'
 tups:∀b xs,H b=some (.tup xs)→H' b=some (.tup xs)
 frzs:∀b o u,H b=some (.frz o u)→H' b=some (.frz o u)
 tbls:∀b ps,H b=some (.tbl ps)→∃more,H' b=some (.tbl (ps++more))
section
variable {fs fs' ex ex':List Addr} {H H1 H2:Hp} {h h1 h2 h':Heap} {a x e:Addr} {o:HO}
theorem Un.any (u:Un fs ex H H1 h h1) {b:Addr} {ob:Obj} (q:h.get? b=some ob) (n:H b=none) (hx:b∉ex):∃sl,h1.get? b=some { ob with slots:=sl }:=by
 by_cases hb:b∈fs
 ·exact u.slot b ob q n hb hx
 ·exact ⟨ob.slots,u.keep b ob q n hb hx⟩
theorem Un.kept (k:∀b u,h.get? b=some u→h'.get? b=some u):Un fs ex H H h h':=
 ⟨fun b ob q _ _ _=>k b ob q,fun b ob q _ _ _=>⟨ob.slots,k b ob q⟩,fun _ _ _ n _=>n,fun b ob q _=>⟨ob,k b ob q⟩,fun _ _ q=>q,fun _ _ _ q=>q,fun _ ps q=>⟨#[],by rw[q];simp⟩⟩
theorem Un.refl:Un fs ex H H h h:=Un.kept fun _ _ q=>q
theorem Un.laid (k:∀b u,h.get? b=some u→h'.get? b=some u) (hp:h.objs.size≤a) (hn:H a=none):Un fs ex H (upd H a o) h h' where
 keep:=fun b u q _ _ _=>k b u q
 slot:=fun b u q _ _ _=>⟨u.slots,k b u q⟩
 free:=fun b u q n _=>by rw[Zn (Nat.ne_of_lt (Nat.lt_of_lt_of_le (Heap.lt_size q) hp))];exact n
 there:=fun b u q _=>⟨u,k b u q⟩
 tups:=fun b xs q=>by rw[Zn (Zg q hn)];exact q
 frzs:=fun b u xs q=>by rw[Zn (Zg q hn)];exact q
 tbls:=fun b ps q=>⟨#[],by rw[Zn (Zg q hn),q];simp⟩
theorem Un.write (mu:Mut (H x)) (he:e=x∨H e=some (.own x)) (k:∀b u,b≠e→h.get? b=some u→h'.get? b=some u) (heo:∃u,h'.get? e=some u):Un fs ex H (upd H x o) h h':=by
 have hx:∀b,H b=none→b≠x:=fun b n z=>by subst z;rw[n] at mu;exact mu
 have hb:∀b,H b=none→b≠e:=fun b n z=>by
  subst z
  rcases he with r|r
  ·exact hx b n r
  ·rw[n] at r;cases r
 have hm:∀b u,H b=some u→¬ Mut (some u)→b≠x:=fun b u q nm z=>by subst z;rw[q] at mu;exact nm mu
 refine ⟨fun b u q n _ _=>k b u (hb b n) q,fun b u q n _ _=>⟨u.slots,k b u (hb b n) q⟩,fun b u q n _=>by rw[Zn (hx b n)];exact n,fun b u q _=>?_,
  fun b xs q=>by rw[Zn (hm b _ q fun z=>z)];exact q,fun b u xs q=>by rw[Zn (hm b _ q fun z=>z)];exact q,fun b ps q=>⟨#[],by rw[Zn (hm b _ q fun z=>z),q];simp⟩⟩
 by_cases hbe:b=e
 ·subst hbe;exact heo
 ·exact ⟨u,k b u hbe q⟩
end
def trk (h:Heap) (H:Hp):List Addr:=(List.range h.objs.size).filter fun a=>(H a).isSome
def hidT (h:Heap) (H:Hp):Heap:=PySem.W.hideAll h (trk h H)
theorem hidT_size (h:Heap) (H:Hp):(hidT h H).objs.size=h.objs.size:=PySem.W.hideAll_size _ _
theorem hidT_get {h:Heap} {H:Hp} {b:Addr} {o:Obj} (e:h.get? b=some o) (n:H b=none):(hidT h H).get? b=some o:=
 PySem.W.hideAll_get _ e fun hm=>by
  have q:(H b).isSome=true:=(List.mem_filter.mp hm).2
  rw[n] at q;simp at q
theorem of_hidT {h:Heap} {H:Hp} {b:Addr} {o:Obj} (e:(hidT h H).get? b=some o):h.get? b=some o∧H b=none:=by
 have e':h.get? b=some o:=PySem.W.of_hideAll (trk h H) e
 refine ⟨e',?_⟩
 cases q:H b with
 | none=>rfl
 | some x=>
  have hm:b∈trk h H:=List.mem_filter.mpr ⟨List.mem_range.mpr (Heap.lt_size e'),by simp[q]⟩
  have z:(hidT h H).get? b=none:=PySem.W.hideAll_none (trk h H) hm
  rw[z] at e;cases e
structure Mod (K:PySem.W.Frag) (mg:Str→Option Value) (base:Heap):Prop where
 kin:K.In base
 glob:base.Ns mainGlobals mg
 blt:∃mb,base.Ns builtinsNs mb∧∀x:Str,x≠"__name__"→mb x=bootBuiltins x
 nolimit:base.NoLimit
structure Cx where
 prog:Program
 w:World
 K:PySem.W.Frag
 mg:Str→Option Value
 base:Heap
 A:Around
 N:List Str
 s_0:Shared
 H_0:Hp
 env:Env
 outer:List Env
 stack:List Env
 ex:List Addr
 fn:Str→Bool
 calm:Bool
 pn:List (Addr×Obj)
 xe:Value→Shared→Prop
def frs (l:List Env):List Addr:=l.filterMap (·.frame)
abbrev Cx.fs (X:Cx):List Addr:=frs X.outer
def Vis (sc:Scope) (x:Str):Prop:=sc.names.lookup x=some .local∨sc.names.lookup x=some .cell∨sc.names.lookup x=some .free
def Loc (sc:Scope) (x:Str):Prop:=sc.names.lookup x=some .local∨sc.names.lookup x=some .cell
def Look (env:Env) (h:Heap) (m:Str→Option Value) (x:Str) (u:Value):Prop:=
 (env.kindOf x=some .local∧m x=some u)∨((env.kindOf x=some .cell∨env.kindOf x=some .free)∧∃c,env.cells.lookup x=some c∧h.IsCell c (some u))
structure Cx.Ok (X:Cx):Prop where
 mod:Mod X.K X.mg X.base
 kind:X.env.scope.kind=.function
 glob:X.env.globals=mainGlobals
 blt:X.env.builtins=builtinsNs
 above:X.s_0.heap.objs.size≤X.env.locals
 inj:∀x y c,X.env.cells.lookup x=some c→X.env.cells.lookup y=some c→x=y
 has:∀x,(X.env.kindOf x=some .cell∨X.env.kindOf x=some .free)→∃c,X.env.cells.lookup x=some c
 cab:∀x c,X.fn x=true→X.env.cells.lookup x=some c→X.s_0.heap.objs.size≤c
 hd:X.calm=true→X.A.handled=none
 frames:X.A.frames=some X.stack
 stk:X.stack=X.outer∨(X.stack=X.env::X.outer∧X.env.frame=some X.env.locals)
 exf:∀b∈X.ex,b≠X.env.locals∧∀x c,X.env.cells.lookup x=some c→c≠b
 bs:∀b o,X.base.get? b=some o→X.s_0.heap.get? b=some o∧X.H_0 b=none
 bsz:X.base.objs.size≤X.s_0.heap.objs.size
 noex:∀b o,X.base.get? b=some o→b∉X.ex
 exfs:∀b∈X.ex,b∉X.fs
 funs:X.s_0.heap.FunFrames X.base X.outer
 frf:∀b∈X.fs,X.H_0 b=none
structure Inv (X:Cx) (pins:List (Addr×Obj)) (σ:List (Option V)) (H:Hp) (s:Shared):Prop where
 ok:X.Ok
 os:s.os=X.s_0.os
 bare:AllBare s.gens
 base:Un X.fs X.ex X.H_0 H X.s_0.heap s.heap
 loc:∃m,s.heap.Ns X.env.locals m∧∀(i:Nat) (x:Str) (v:V),X.N[i]?=some x→σ[i]?=some (some v)→Vis X.env.scope x→∃u,RelV v u∧Look X.env s.heap m x u
 cell:∀x c,X.env.cells.lookup x=some c→∃v,s.heap.IsCell c v
 free:H X.env.locals=none
 freeC:∀x c,X.env.cells.lookup x=some c→H c=none
 pin:∀p∈X.pn++pins,s.heap.get? p.1=some p.2∧H p.1=none∧p.1≠X.env.locals∧p.1∉X.fs∧∀v,p.2.data≠.cell v
 hok:HOk X.prog X.w H s.heap
 len:σ.length=X.N.length
section
variable {X:Cx} {pins:List (Addr×Obj)} {σ:List (Option V)} {H H':Hp} {s:Shared} {h':Heap}
theorem Cx.Ok.nofr (ok:X.Ok) {b:Addr} {o:Obj} (e:X.base.get? b=some o):b∉X.fs:=fun hb=>by
 have:=(ok.funs.mem hb).1
 rw[e] at this;cases this
theorem Inv.bs (I:Inv X pins σ H s):∀b o,X.base.get? b=some o→s.heap.get? b=some o∧H b=none:=fun b o e=>
 ⟨I.base.keep b o (I.ok.bs b o e).1 (I.ok.bs b o e).2 (I.ok.nofr e) (I.ok.noex b o e),I.base.free b o (I.ok.bs b o e).1 (I.ok.bs b o e).2 (I.ok.noex b o e)⟩
theorem Inv.bk (I:Inv X pins σ H s):∀b o,X.base.get? b=some o→s.heap.get? b=some o:=fun b o e=>(I.bs b o e).1
theorem Inv.mod (I:Inv X pins σ H s):Mod X.K X.mg X.base:=I.ok.mod
theorem Inv.kIn (I:Inv X pins σ H s):X.K.In s.heap:=I.ok.mod.kin.keeps I.bk
theorem Inv.lt (I:Inv X pins σ H s):X.env.locals<s.heap.objs.size:=let ⟨_,hn,_⟩:=I.loc;hn.lt
theorem Inv.sz (I:Inv X pins σ H s):X.s_0.heap.objs.size≤s.heap.objs.size:=Nat.le_trans I.ok.above (Nat.le_of_lt I.lt)
theorem Inv.nofs (I:Inv X pins σ H s) {a:Addr} (h:s.heap.objs.size≤a):a∉X.fs:=fun hb=>by
 obtain ⟨_,o,ho,_⟩:=I.ok.funs.mem hb
 exact absurd (Nat.lt_of_lt_of_le (Heap.lt_size ho) (Nat.le_trans I.sz h)) (Nat.lt_irrefl _)
theorem Inv.cne (I:Inv X pins σ H s):∀x c,X.env.cells.lookup x=some c→c≠X.env.locals:=fun x c e z=>by
 obtain ⟨v,o,ho,hd⟩:=I.cell x c e
 obtain ⟨m,⟨o',es,ep,ho',hd',_⟩,_⟩:=I.loc
 rw[z,ho'] at ho;cases ho;rw[hd'] at hd;cases hd
theorem Inv.funs (I:Inv X pins σ H s):s.heap.FunFrames X.base X.outer:=by
 have all:∀(l:List Env),(∀b∈frs l,b∈X.fs)→X.s_0.heap.FunFrames X.base l→s.heap.FunFrames X.base l:=by
  intro l
  induction l with
  | nil=>intro _ _;trivial
  | cons env r ih=>
   intro hs hl
   obtain ⟨hk,⟨L,o,hf,hn,ho,hd⟩,hr⟩:=hl
   have hL:L∈X.fs:=hs L (by unfold frs;rw[List.filterMap_cons,hf];exact List.mem_cons_self)
   obtain ⟨sl,e⟩:=I.base.slot L o ho (I.ok.frf L hL) hL fun z=>I.ok.exfs L z hL
   exact ⟨hk,⟨L,_,hf,hn,e,hd⟩,ih (fun b hb=>hs b (by unfold frs;rw[List.filterMap_cons,hf];exact List.mem_cons_of_mem _ hb)) hr⟩
 exact all X.outer (fun _ hb=>hb) I.ok.funs
theorem Inv.stack (I:Inv X pins σ H s):s.heap.FunFrames X.base X.stack:=by
 rcases I.ok.stk with e|⟨e,hf⟩
 ·rw[e];exact I.funs
 ·rw[e]
  obtain ⟨m,hn,_⟩:=I.loc
  refine .cons (by rw[I.ok.kind];decide) hf hn ?_ I.funs
  exact Heap.get?_none_of_le (Nat.le_trans I.ok.bsz I.ok.above)
theorem Inv.stkSub (I:Inv X pins σ H s):∀b∈frs X.stack,b∈X.env.locals::X.fs:=fun b hb=>by
 rcases I.ok.stk with e|⟨e,hf⟩
 ·rw[e] at hb;exact List.mem_cons_of_mem _ hb
 ·rw[e] at hb
  unfold frs at hb
  rw[List.filterMap_cons,hf] at hb
  exact hb
theorem Inv.stkFree (I:Inv X pins σ H s):∀b∈frs X.stack,H b=none:=fun b hb=>by
 rcases List.mem_cons.mp (I.stkSub b hb) with e|hb
 ·rw[e];exact I.free
 ·obtain ⟨_,o,ho,_⟩:=I.ok.funs.mem hb
  exact I.base.free b o ho (I.ok.frf b hb) fun z=>I.ok.exfs b z hb
theorem Inv.step {g':Array GenState} {t':Nat} {d':Drawn} {ch:List Addr} (I:Inv X pins σ H s)
  (hch:∀b∈ch,(b∈X.ex∨X.s_0.heap.objs.size≤b)∧b≠X.env.locals∧(∀x c,X.env.cells.lookup x=some c→c≠b)∧∀p∈X.pn++pins,p.1≠b)
  (keep:∀b o,b≠X.env.locals→b∉X.fs→b∉ch→s.heap.get? b=some o→H b=none→h'.get? b=some o)
  (slot:∀b o,b≠X.env.locals→b∈X.fs→b∉ch→s.heap.get? b=some o→H b=none→∃sl,h'.get? b=some { o with slots:=sl }) (free:∀b o,b∉ch→s.heap.get? b=some o→H b=none→H' b=none)
  (there:∀b o,b∉ch→s.heap.get? b=some o→∃o',h'.get? b=some o')
  (tups:∀b xs,H b=some (.tup xs)→H' b=some (.tup xs)) (frzs:∀b o u,H b=some (.frz o u)→H' b=some (.frz o u)) (tbls:∀b ps,H b=some (.tbl ps)→∃more,H' b=some (.tbl (ps++more)))
  (ns:∀m,s.heap.Ns X.env.locals m→h'.Ns X.env.locals m) (hok:HOk X.prog X.w H' h') (hg:AllBare g'):
  Inv X pins σ H' { s with heap:=h',gens:=g',drawn:=d',toks:=t' }:=by
 have neL:∀b o,X.s_0.heap.get? b=some o→b≠X.env.locals:=fun b o e=>Nat.ne_of_lt (Nat.lt_of_lt_of_le (Heap.lt_size e) I.ok.above)
 have neC:∀b o,X.s_0.heap.get? b=some o→b∉X.ex→b∉ch:=fun b o e hx hb=>by
  rcases (hch b hb).1 with z|z
  ·exact hx z
  ·exact absurd (Nat.lt_of_lt_of_le (Heap.lt_size e) z) (Nat.lt_irrefl _)
 have cellK:∀x c,X.env.cells.lookup x=some c→∀v,s.heap.IsCell c v→h'.IsCell c v:=fun x c e v ⟨o,ho,hd⟩=>by
  have nch:c∉ch:=fun z=>(hch c z).2.2.1 x c e rfl
  by_cases hc:c∈X.fs
  ·obtain ⟨sl,q⟩:=slot c o (I.cne x c e) hc nch ho (I.freeC x c e)
   exact ⟨_,q,hd⟩
  ·exact ⟨o,keep c o (I.cne x c e) hc nch ho (I.freeC x c e),hd⟩
 refine ⟨I.ok,I.os,hg,⟨fun b o e n hb hx=>?_,fun b o e n hb hx=>?_,fun b o e n hx=>?_,fun b o e hx=>?_,fun b xs e=>tups b xs (I.base.tups b xs e),fun b o xs e=>frzs b o xs (I.base.frzs b o xs e),fun b ps e=>?_⟩,?_,fun x c e=>?_,?_,fun x c e=>?_,fun p hp=>?_,hok,I.len⟩
 ·exact keep b o (neL b o e) hb (neC b o e hx) (I.base.keep b o e n hb hx) (I.base.free b o e n hx)
 ·obtain ⟨sl,e1⟩:=I.base.slot b o e n hb hx
  obtain ⟨sl',e2⟩:=slot b _ (neL b o e) hb (neC b o e hx) e1 (I.base.free b o e n hx)
  exact ⟨sl',e2⟩
 ·obtain ⟨o',e1⟩:=I.base.there b o e hx
  exact free b o' (neC b o e hx) e1 (I.base.free b o e n hx)
 ·obtain ⟨o',e1⟩:=I.base.there b o e hx
  exact there b o' (neC b o e hx) e1
 ·obtain ⟨m1,e1⟩:=I.base.tbls b ps e
  obtain ⟨m2,e2⟩:=tbls b _ e1
  exact ⟨m1++m2,by rw[e2,Array.append_assoc]⟩
 ·obtain ⟨m,hn,hl⟩:=I.loc
  refine ⟨m,ns m hn,fun i x v e1 e2 e3=>?_⟩
  obtain ⟨u,r,l⟩:=hl i x v e1 e2 e3
  refine ⟨u,r,?_⟩
  rcases l with l|⟨k,c,e,z⟩
  ·exact .inl l
  ·exact .inr ⟨k,c,e,cellK x c e _ z⟩
 ·obtain ⟨v,z⟩:=I.cell x c e
  exact ⟨v,cellK x c e v z⟩
 ·obtain ⟨m,⟨o,_,_,ho,_⟩,_⟩:=I.loc
  exact free _ o (fun z=>(hch _ z).2.1 rfl) ho I.free
 ·obtain ⟨v,o,ho,hd⟩:=I.cell x c e
  exact free c o (fun z=>(hch c z).2.2.1 x c e rfl) ho (I.freeC x c e)
 ·obtain ⟨e,n,ne,nf,d⟩:=I.pin p hp
  have nch:p.1∉ch:=fun z=>(hch p.1 z).2.2.2 p hp rfl
  exact ⟨keep p.1 p.2 ne nf nch e n,free p.1 p.2 nch e n,ne,nf,d⟩
theorem Inv.un {t':Nat} (I:Inv X pins σ H s) (u:Un X.fs [] H H' s.heap h') (hok:HOk X.prog X.w H' h'):Inv X pins σ H' { s with heap:=h',toks:=t' }:=by
 obtain ⟨m,⟨o,es,ep,ho,r⟩,_⟩:=id I.loc
 obtain ⟨sl,hL⟩:=u.any ho I.free (by simp)
 exact I.step (g':=s.gens) (d':=s.drawn) (ch:=[]) (fun _ z=>nomatch z) (fun b o _ hb _ e n=>u.keep b o e n hb (by simp)) (fun b o _ hb _ e n=>u.slot b o e n hb (by simp)) (fun b o _ e n=>u.free b o e n (by simp)) (fun b o _ e=>u.there b o e (by simp)) u.tups u.frzs u.tbls (fun m' hm=>by
  obtain ⟨o',es',ep',ho',r'⟩:=hm
  rw[ho] at ho';cases ho'
  exact ⟨_,es',ep',hL,r'⟩) hok I.bare
theorem Inv.call {g':Array GenState} {t':Nat} {d':Drawn} {ch:List Addr} (I:Inv X pins σ H s) (u:Un (frs X.stack) ch H H' s.heap h') (hok:HOk X.prog X.w H' h') (hg:AllBare g')
  (hch:∀b∈ch,(b∈X.ex∨X.s_0.heap.objs.size≤b)∧b≠X.env.locals∧(∀x c,X.env.cells.lookup x=some c→c≠b)∧∀p∈X.pn++pins,p.1≠b):
  Inv X pins σ H' { s with heap:=h',gens:=g',drawn:=d',toks:=t' }:=by
 obtain ⟨m,⟨o,es,ep,ho,r⟩,_⟩:=id I.loc
 obtain ⟨sl,hL⟩:=u.any ho I.free fun z=>(hch _ z).2.1 rfl
 exact I.step (ch:=ch) hch (fun b o hL hb hc e n=>u.keep b o e n (fun z=>(List.mem_cons.mp (I.stkSub b z)).elim hL hb) hc) (fun b o _ _ hc e n=>u.any e n hc) (fun b o hc e n=>u.free b o e n hc) (fun b o hc e=>u.there b o e hc) u.tups u.frzs u.tbls (fun m' hm=>by
  obtain ⟨o',es',ep',ho',r'⟩:=hm
  rw[ho] at ho';cases ho'
  exact ⟨_,es',ep',hL,r'⟩) hok hg
theorem Inv.turned {t':Nat} {it:Addr} (I:Inv X pins σ H s) (k:∀b o,b≠it→s.heap.get? b=some o→h'.get? b=some o) (hn:H it=none) (hL:it≠X.env.locals)
  (h1:it∈X.ex∨X.s_0.heap.objs.size≤it) (h2:∀x c,X.env.cells.lookup x=some c→c≠it) (h3:∀p∈X.pn++pins,p.1≠it):Inv X pins σ H { s with heap:=h',toks:=t' }:=by
 have nit:∀b u,H b=some u→b≠it:=fun b u e z=>by rw[z,hn] at e;cases e
 refine I.step (g':=s.gens) (d':=s.drawn) (ch:=[it]) (fun b hb=>?_) (fun b o _ _ hc e _=>k b o (fun z=>hc (by simp[z])) e) (fun b o _ _ hc e _=>⟨o.slots,k b o (fun z=>hc (by simp[z])) e⟩) (fun _ _ _ _ n=>n)
  (fun b o hc e=>⟨o,k b o (fun z=>hc (by simp[z])) e⟩) (fun _ _ e=>e) (fun _ _ _ e=>e) (fun b ps e=>⟨#[],by rw[e];simp⟩) (fun m hm=>?_) (fun b u e=>?_) I.bare
 ·have e:b=it:=by simpa using hb
  subst e
  exact ⟨h1,hL,h2,h3⟩
 ·obtain ⟨o,es,ep,ho,r⟩:=hm
  exact ⟨o,es,ep,k _ o (Ne.symm hL) ho,r⟩
 ·refine (I.hok b u e).stay (fun c v hc q=>k c v ?_ q) (fun _ q=>q) fun _ _ q=>q
  rcases hc with z|z
  ·rw[z];exact nit b u e
  ·exact nit c _ z
theorem Inv.tok (I:Inv X pins σ H s) (t:Nat):Inv X pins σ H { s with toks:=t }:=I.un (h':=s.heap) (t':=t) Un.refl I.hok
theorem Inv.kept {t':Nat} (I:Inv X pins σ H s) (k:∀b u,s.heap.get? b=some u→h'.get? b=some u):Inv X pins σ H { s with heap:=h',toks:=t' }:=I.un (Un.kept k) (I.hok.kept k)
theorem Inv.laid {a:Addr} {o:HO} {t':Nat} (I:Inv X pins σ H s) (k:∀b u,s.heap.get? b=some u→h'.get? b=some u) (hp:s.heap.objs.size≤a) (new:ObjOk X.prog X.w (upd H a o) h' a o):
  Inv X pins σ (upd H a o) { s with heap:=h',toks:=t' }:=I.un (Un.laid k hp (I.hok.fresh hp)) (I.hok.laid k hp new)
theorem Inv.write {x e:Addr} {o:HO} {t':Nat} (I:Inv X pins σ H s) (mu:Mut (H x)) (he:e=x∨H e=some (.own x)) (k:∀b u,b≠e→s.heap.get? b=some u→h'.get? b=some u) (heo:∃u,h'.get? e=some u)
  (new:ObjOk X.prog X.w (upd H x o) h' x o):Inv X pins σ (upd H x o) { s with heap:=h',toks:=t' }:=I.un (Un.write mu he k heo) (I.hok.write mu he k heo new)
theorem Inv.weak {σ':List (Option V)} (I:Inv X pins σ H s) (hl:σ'.length=σ.length) (w:∀(i:Nat) v,σ'[i]?=some (some v)→σ[i]?=some (some v)):Inv X pins σ' H s:=
 ⟨I.ok,I.os,I.bare,I.base,let ⟨m,hn,hl'⟩:=I.loc;⟨m,hn,fun i x v e1 e2 e3=>hl' i x v e1 (w i v e2) e3⟩,I.cell,I.free,I.freeC,I.pin,I.hok,hl.trans I.len⟩
theorem Inv.pins_of {pins':List (Addr×Obj)} (I:Inv X pins σ H s) (h:∀p∈pins',s.heap.get? p.1=some p.2∧H p.1=none∧p.1≠X.env.locals∧p.1∉X.fs∧∀v,p.2.data≠.cell v):Inv X pins' σ H s:=
 ⟨I.ok,I.os,I.bare,I.base,I.loc,I.cell,I.free,I.freeC,fun p hp=>(List.mem_append.mp hp).elim (fun z=>I.pin p (List.mem_append_left _ z)) (h p),I.hok,I.len⟩
theorem nodup_ix {N:List Str} (hN:N.Nodup) {i j:Nat} {x:Str} (a:N[i]?=some x) (b:N[j]?=some x):i=j:=by
 obtain ⟨h1,e1⟩:=List.getElem?_eq_some_iff.mp a
 obtain ⟨h2,e2⟩:=List.getElem?_eq_some_iff.mp b
 exact (List.getElem_inj hN).mp (e1.trans e2.symm)
theorem store_ok2 {M:Model} {A:Around} {E:Value→Shared→Prop} {i:Nat} {x:Str} {v:V} {u:Value} {Q:Unit→Shared→Prop} (I:Inv X pins σ H s) (hN:X.N.Nodup) (hi:X.N[i]?=some x) (hx:Loc X.env.scope x) (r:RelV v u)
  (h:∀s',Inv X pins (σ.set i (some v)) H s'→(∃a,Heap.SameBut a s.heap s'.heap∧(a=X.env.locals∨X.env.cells.lookup x=some a))→Q () s') (hf:X.fn x=true∨X.env.scope.names.lookup x=some .local:=by first|exact .inl rfl|exact .inr rfl|assumption):wpAny M A (storeName X.env x u) Q E s:=by
 obtain ⟨m,hn,hl⟩:=id I.loc
 have hcls:(X.env.scope.kind==.class||(X.env.scope.kind==.module&&X.env.locals != X.env.globals))=false:=by rw[I.ok.kind];rfl
 have hiσ:i<σ.length:=by rw[I.len];exact (List.getElem?_eq_some_iff.mp hi).1
 have cne:=I.cne
 have tracked:∀{a:Addr} {h':Heap},(∃o,s.heap.get? a=some o∧H a=none)→Heap.SameBut a s.heap h'→HOk X.prog X.w H h':=fun {a h'} ha hs b ob e=>by
  obtain ⟨_,_,hfree⟩:=ha
  refine (I.hok b ob e).stay (fun c w' hc q=>(hs.2 c ?_).trans q) (fun _ q=>q) fun _ _ q=>q
  rintro rfl
  rcases hc with rfl|hc
  ·rw[hfree] at e;cases e
  ·rw[hfree] at hc;cases hc
 rcases hx with hk|hk
 ·refine wpAny_storeName_local hk hn (fun h' hn' hs=>?_) hcls
  obtain ⟨oL,_,_,hoL,_⟩:=id hn
  refine h _ ⟨I.ok,I.os,I.bare,⟨fun b o e n hb hx=>?_,fun b o e n hb hx=>?_,I.base.free,fun b o e hx=>?_,I.base.tups,I.base.frzs,I.base.tbls⟩,⟨_,hn',fun j y v' e1 e2 e3=>?_⟩,fun y c e=>?_,I.free,I.freeC,fun p hp=>?_,tracked ⟨oL,hoL,I.free⟩ hs,by simpa using I.len⟩ ⟨_,hs,.inl rfl⟩
  ·exact (hs.2 b (Nat.ne_of_lt (Nat.lt_of_lt_of_le (Heap.lt_size e) I.ok.above))).trans (I.base.keep b o e n hb hx)
  ·obtain ⟨sl,e1⟩:=I.base.slot b o e n hb hx
   exact ⟨sl,(hs.2 b (Nat.ne_of_lt (Nat.lt_of_lt_of_le (Heap.lt_size e) I.ok.above))).trans e1⟩
  ·obtain ⟨o',e1⟩:=I.base.there b o e hx
   exact ⟨o',(hs.2 b (Nat.ne_of_lt (Nat.lt_of_lt_of_le (Heap.lt_size e) I.ok.above))).trans e1⟩
  ·by_cases hj:j=i
   ·subst hj
    rw[hi] at e1;cases e1
    rw[List.getElem?_set_self hiσ] at e2
    cases e2
    exact ⟨u,r,.inl ⟨hk,by simp⟩⟩
   ·rw[List.getElem?_set_ne (Ne.symm hj)] at e2
    obtain ⟨u',r',q⟩:=hl j y v' e1 e2 e3
    refine ⟨u',r',?_⟩
    rcases q with ⟨k,e⟩|⟨k,c,e,z⟩
    ·refine .inl ⟨k,?_⟩
     have:y≠x:=fun e=>hj (nodup_ix hN e1 (e▸hi))
     simp[this,e]
    ·exact .inr ⟨k,c,e,z.sameBut hs (cne y c e)⟩
  ·obtain ⟨w',z⟩:=I.cell y c e
   exact ⟨w',z.sameBut hs (cne y c e)⟩
  ·obtain ⟨e,n,ne,nf,d⟩:=I.pin p hp
   exact ⟨(hs.2 p.1 ne).trans e,n,ne,nf,d⟩
 ·have hfn:X.fn x=true:=by
   rcases hf with z|z
   ·exact z
   ·rw[z] at hk;cases hk
  obtain ⟨c,hc⟩:=I.ok.has x (.inl hk)
  obtain ⟨w',z⟩:=I.cell x c hc
  refine wpAny_storeName_cell I.ok.kind hk hc z (fun h' hc' hs=>?_)
  obtain ⟨oc,hoc,hocd⟩:=id z
  refine h { s with heap:=h' } ⟨I.ok,I.os,I.bare,⟨fun b o e n hb hx=>?_,fun b o e n hb hx=>?_,I.base.free,fun b o e hx=>?_,I.base.tups,I.base.frzs,I.base.tbls⟩,⟨m,hn.sameBut hs (Ne.symm (cne x c hc)),fun j y v' e1 e2 e3=>?_⟩,fun y c' e=>?_,I.free,I.freeC,fun p hp=>?_,tracked ⟨oc,hoc,I.freeC x c hc⟩ hs,by simpa using I.len⟩ ⟨c,hs,.inr hc⟩
  ·exact (hs.2 b (Nat.ne_of_lt (Nat.lt_of_lt_of_le (Heap.lt_size e) (I.ok.cab x c hfn hc)))).trans (I.base.keep b o e n hb hx)
  ·obtain ⟨sl,e1⟩:=I.base.slot b o e n hb hx
   exact ⟨sl,(hs.2 b (Nat.ne_of_lt (Nat.lt_of_lt_of_le (Heap.lt_size e) (I.ok.cab x c hfn hc)))).trans e1⟩
  ·obtain ⟨o',e1⟩:=I.base.there b o e hx
   exact ⟨o',(hs.2 b (Nat.ne_of_lt (Nat.lt_of_lt_of_le (Heap.lt_size e) (I.ok.cab x c hfn hc)))).trans e1⟩
  ·by_cases hj:j=i
   ·subst hj
    rw[hi] at e1;cases e1
    rw[List.getElem?_set_self hiσ] at e2
    cases e2
    exact ⟨u,r,.inr ⟨.inl hk,c,hc,hc'⟩⟩
   ·rw[List.getElem?_set_ne (Ne.symm hj)] at e2
    obtain ⟨u',r',q⟩:=hl j y v' e1 e2 e3
    refine ⟨u',r',?_⟩
    rcases q with q|⟨k,c',e,z'⟩
    ·exact .inl q
    ·refine .inr ⟨k,c',e,z'.sameBut hs ?_⟩
     rintro rfl
     exact hj (nodup_ix hN e1 (I.ok.inj _ _ _ e hc▸hi))
  ·by_cases hcc:c'=c
   ·subst hcc;exact ⟨_,hc'⟩
   ·obtain ⟨w2,z2⟩:=I.cell y c' e
    exact ⟨w2,z2.sameBut hs hcc⟩
  ·obtain ⟨e,n,ne,nf,d⟩:=I.pin p hp
   refine ⟨(hs.2 p.1 ?_).trans e,n,ne,nf,d⟩
   intro q
   rw[q,hoc] at e
   have q':oc=p.2:=Option.some.inj e
   exact d w' (by rw[← q'];exact hocd)
theorem store_ok {M:Model} {A:Around} {E:Value→Shared→Prop} {i:Nat} {x:Str} {v:V} {u:Value} {Q:Unit→Shared→Prop} (I:Inv X pins σ H s) (hN:X.N.Nodup) (hi:X.N[i]?=some x) (hx:Loc X.env.scope x) (r:RelV v u)
  (h:∀s',Inv X pins (σ.set i (some v)) H s'→Q () s') (hf:X.fn x=true∨X.env.scope.names.lookup x=some .local:=by first|exact .inl rfl|exact .inr rfl|assumption):wpAny M A (storeName X.env x u) Q E s:=
 store_ok2 I hN hi hx r (fun s' I' _=>h s' I') hf
theorem Inv.call' {s':Shared} {ch:List Addr} (I:Inv X pins σ H s) (ho:s'.os=s.os) (u:Un (frs X.stack) ch H H' s.heap s'.heap) (hok:HOk X.prog X.w H' s'.heap) (hg:AllBare s'.gens)
  (hch:∀b∈ch,(b∈X.ex∨X.s_0.heap.objs.size≤b)∧b≠X.env.locals∧(∀x c,X.env.cells.lookup x=some c→c≠b)∧∀p∈X.pn++pins,p.1≠b):Inv X pins σ H' s':=by
 obtain ⟨h',g',d',t',o'⟩:=s'
 have e:o'=s.os:=ho
 subst e
 exact I.call (g':=g') (t':=t') (d':=d') u hok hg hch
end
abbrev XK:=Value→Option Addr→Hp→Prop
abbrev St:=List (Option V)
abbrev VK:=V→Hp→Prop
abbrev TE:=St→Hp→VK→Prop
abbrev TT:=St→Hp→(Bool→Hp→Prop)→Prop
abbrev TA:=St→Hp→(List V→Hp→Prop)→Prop
structure Ends where
 nx:St→Hp→Prop
 rt:VK
 bk:St→Hp→Prop:=fun _ _=>False
 ct:St→Hp→Prop:=fun _ _=>False
abbrev TS:=Ends→St→Hp→Prop
def EP (X:Cx) (pins:List (Addr×Obj)) (σ:St) (Q:VK) (u:Value) (s':Shared):Prop:=∃v H',Inv X pins σ H' s'∧RelV v u∧Q v H'
def TP (X:Cx) (pins:List (Addr×Obj)) (σ:St) (Q:Bool→Hp→Prop) (b:Bool) (s':Shared):Prop:=∃H',Inv X pins σ H' s'∧Q b H'
def AP (X:Cx) (pins:List (Addr×Obj)) (σ:St) (Q:List V→Hp→Prop) (us:List Value) (s':Shared):Prop:=∃vs H',Inv X pins σ H' s'∧Vals vs us∧Q vs H'
def SP (X:Cx) (pins:List (Addr×Obj)) (D:Ends) (f:Flow) (s':Shared):Prop:=
 match f with
 | .next=>∃σ' H',Inv X pins σ' H' s'∧D.nx σ' H'
 | .brk=>∃σ' H',Inv X pins σ' H' s'∧D.bk σ' H'
 | .cont=>∃σ' H',Inv X pins σ' H' s'∧D.ct σ' H'
 | .ret u=>∃v σ' H',Inv X pins σ' H' s'∧RelV v u∧D.rt v H'
def PE (X:Cx) (e:Expr) (t:TE):Prop:=
 ∀(pins:List (Addr×Obj)) (s:Shared) (σ:St) (H:Hp) (Q:VK),Inv X pins σ H s→t σ H Q→wpAny (model X.prog X.w) X.A (eval e X.env) (EP X pins σ Q) X.xe s
def PT (X:Cx) (e:Expr) (t:TT):Prop:=
 ∀(pins:List (Addr×Obj)) (s:Shared) (σ:St) (H:Hp) (Q:Bool→Hp→Prop),Inv X pins σ H s→t σ H Q→wpAny (model X.prog X.w) X.A (isTrue e X.env (eval e X.env)) (TP X pins σ Q) X.xe s
def PW (X:Cx) (e:Expr) (t:TT):Prop:=
 ∀(whole:Sem Value) (pins:List (Addr×Obj)) (s:Shared) (σ:St) (H:Hp) (Q:Bool→Hp→Prop),Inv X pins σ H s→t σ H Q→wpAny (model X.prog X.w) X.A (isTrue e X.env whole) (TP X pins σ Q) X.xe s
theorem PW.pt {X:Cx} {e:Expr} {t:TT} (h:PW X e t):PT X e t:=h _
def PA (X:Cx) (es:List Expr) (t:TA):Prop:=
 ∀(pos:Pos) (pins:List (Addr×Obj)) (s:Shared) (σ:St) (H:Hp) (Q:List V→Hp→Prop),Inv X pins σ H s→t σ H Q→wpAny (model X.prog X.w) X.A (spliced (backTo pos (starEach es X.env))) (AP X pins σ Q) X.xe s
def PS (X:Cx) (st:Stmt) (t:TS):Prop:=
 ∀(pins:List (Addr×Obj)) (s:Shared) (σ:St) (H:Hp) (D:Ends),Inv X pins σ H s→t D σ H→wpAny (model X.prog X.w) X.A (exec st X.env) (SP X pins D) X.xe s
def PSs (X:Cx) (st:List Stmt) (t:TS):Prop:=
 ∀(pins:List (Addr×Obj)) (s:Shared) (σ:St) (H:Hp) (D:Ends),Inv X pins σ H s→t D σ H→wpAny (model X.prog X.w) X.A (execs st X.env) (SP X pins D) X.xe s
theorem thn {α:Type} {t:Sem α} {Q Q':α→Shared→Prop} {M:Model} {A:Around} {E:Value→Shared→Prop} {s:Shared} (h:wpAny M A t Q E s) (hQ:∀a s,Q a s→Q' a s):wpAny M A t Q' E s:=wpAny_mono h hQ fun _ _ x=>x
section
variable {X:Cx}
def tVar (i:Nat):TE:=fun σ H Q=>∃v,σ[i]?=some (some v)∧Q v H
def tC (v:V):TE:=fun _ H Q=>Q v H
theorem pe_var {i:Nat} {x:Str} {pos:Pos} (hN:X.N[i]?=some x) (hv:Vis X.env.scope x) (hd:(x==("__debug__":Str))=false:=by decide) (hcd:(x==("__classdict__":Str))=false:=by decide):PE X (.Name x pos) (tVar i):=by
 intro pins s σ H Q I h
 obtain ⟨v,e,h⟩:=h
 obtain ⟨m,hn,hl⟩:=I.loc
 obtain ⟨u,r,l⟩:=hl i x v hN e hv
 have fin:EP X pins σ Q u s:=⟨v,H,I,r,h⟩
 rcases l with ⟨hk,hm⟩|⟨hk,c,hc,hcell⟩
 ·exact wpAny_Name (wpAny_loadName_local I.ok.kind hk hn hm fin) hd
 ·rcases hk with hk|hk
  ·exact wpAny_Name (wpAny_loadName_cell I.ok.kind hk hc hcell fin) hd
  ·exact wpAny_Name (wpAny_loadName_free I.ok.kind hk hc hcell fin hcd) hd
theorem Zf {i j pos}:PE X (.Constant (.int i) j pos) (tC (.int i)):=fun _ _ _ H _ I h=>wpAny_Constant_int ⟨.int i,H,I.tok _,⟨_,rfl⟩,h⟩
theorem Jz {b j pos}:PE X (.Constant (.bool b) j pos) (tC (.bl b)):=fun _ _ _ H _ I h=>Constant_bool ⟨.bl b,H,I,rfl,h⟩
theorem pe_non {j pos}:PE X (.Constant .none j pos) (tC .non):=fun _ _ _ H _ I h=>Constant_none ⟨.non,H,I,rfl,h⟩
def Gl (X:Cx) (x:Str):Prop:=X.env.kindOf x=some .globalImplicit
theorem ld_glob {E:Value→Shared→Prop} {pins:List (Addr×Obj)} {s:Shared} {σ:St} {H:Hp} {x:Str} {u:Value} {pos:Pos} {Q:Value→Shared→Prop} (I:Inv X pins σ H s) (hg:Gl X x) (hm:X.mg x=some u) (h:Q u s)
  (hd:(x==("__debug__":Str))=false:=by decide):wpAny (model X.prog X.w) X.A (eval (.Name x pos) X.env) Q E s:=
 Calls.Name_function_global I.ok.kind hg (Calls.loadGlobal_global (by rw[I.ok.glob];exact I.mod.glob.keeps I.bk) hm h) hd
theorem ld_blt {E:Value→Shared→Prop} {pins:List (Addr×Obj)} {s:Shared} {σ:St} {H:Hp} {x:Str} {u:Value} {pos:Pos} {Q:Value→Shared→Prop} (I:Inv X pins σ H s) (hg:Gl X x) (hm:X.mg x=none) (hv:bootBuiltins x=some u) (h:Q u s)
  (hn:x≠"__name__":=by decide) (hd:(x==("__debug__":Str))=false:=by decide):wpAny (model X.prog X.w) X.A (eval (.Name x pos) X.env) Q E s:=by
 obtain ⟨mb,h1,h2⟩:=I.mod.blt
 exact Calls.Name_function_global I.ok.kind hg (Calls.loadGlobal_builtin (by rw[I.ok.glob];exact I.mod.glob.keeps I.bk) hm (by rw[I.ok.blt];exact h1.keeps I.bk) ((h2 x hn).trans hv) h) hd
theorem pe_glob {x:Str} {v:V} {u:Value} {pos:Pos} (hg:Gl X x) (hm:X.mg x=some u) (r:RelV v u) (hd:(x==("__debug__":Str))=false:=by decide):PE X (.Name x pos) (tC v):=
 fun _ _ _ H _ I h=>ld_glob I hg hm ⟨v,H,I,r,h⟩ hd
variable {a b:Expr} {ta tb:TE} {pos:Pos}
def tB (t:TE):TT:=fun σ H Q=>t σ H fun x H1=>∃c,x=.bl c∧Q c H1
theorem Ji {e:Expr} {t:TE} (h:PE X e t) (he:∀whole,isTrue e X.env whole=(do let v ← whole;standAt e.pos;holding [v] (truthy v)):=by intro _;rfl):PT X e (tB t):=by
 intro pins s σ H Q I hw
 refine isTrue_plain (thn (h pins s σ H _ I hw) fun v s1 ⟨x,H1,I1,r1,q1⟩=>?_) (he _)
 obtain ⟨d,rfl,q⟩:=q1
 cases r1
 exact wpAny_truthy_bool ⟨H1,I1,q⟩
variable {tA tB':TT} {rest:List Expr}
def tAnd (t u:TT):TT:=fun σ H Q=>t σ H fun c H1=>if c=true then u σ H1 Q else Q false H1
def tOr (t u:TT):TT:=fun σ H Q=>t σ H fun c H1=>if c=true then Q true H1 else u σ H1 Q
def tNot (t:TT):TT:=fun σ H Q=>t σ H fun c H1=>Q (!c) H1
theorem pw_and1 (ha:PT X a tA):PW X (.BoolOp .And [a] pos) tA:=by
 intro wh pins s σ H Q I h
 refine isTrue_and (thn (ha pins s σ H Q I h) fun c s1 e=>?_)
 cases c with
 | true=>exact isTrue_and_nil e
 | false=>exact e
theorem pw_or1 (ha:PT X a tA):PW X (.BoolOp .Or [a] pos) tA:=by
 intro wh pins s σ H Q I h
 refine isTrue_or (thn (ha pins s σ H Q I h) fun c s1 e=>?_)
 cases c with
 | false=>exact isTrue_or_nil e
 | true=>exact e
theorem pw_and (ha:PT X a tA) (hb:PW X (.BoolOp .And (b::rest) pos) tB'):PW X (.BoolOp .And (a::b::rest) pos) (tAnd tA tB'):=by
 intro wh pins s σ H Q I h
 refine isTrue_and (thn (ha pins s σ H _ I h) fun c s1 ⟨H1,I1,q1⟩=>?_)
 cases c with
 | true=>exact hb wh pins s1 σ H1 Q I1 q1
 | false=>exact ⟨H1,I1,q1⟩
theorem pw_or (ha:PT X a tA) (hb:PW X (.BoolOp .Or (b::rest) pos) tB'):PW X (.BoolOp .Or (a::b::rest) pos) (tOr tA tB'):=by
 intro wh pins s σ H Q I h
 refine isTrue_or (thn (ha pins s σ H _ I h) fun c s1 ⟨H1,I1,q1⟩=>?_)
 cases c with
 | true=>exact ⟨H1,I1,q1⟩
 | false=>exact hb wh pins s1 σ H1 Q I1 q1
theorem Xa (ha:PT X a tA):PT X (.UnaryOp .Not a pos) (tNot tA):=by
 intro pins s σ H Q I h
 exact isTrue_not (ha pins s σ H (fun c H1=>Q (!c) H1) I h)
def tAndV (ta tb:TE):TE:=fun σ H Q=>ta σ H fun x H1=>∃c,x=.bl c∧if c=true then tb σ H1 Q else Q (.bl false) H1
theorem pe_one {op} {t:TE} (h:PE X a t):PE X (.BoolOp op [a] pos) t:=fun pins s σ H Q I hw=>BoolOp_one (h pins s σ H Q I hw)
theorem pe_and (ha:PE X a ta) (hb:PE X (.BoolOp .And (b::rest) pos) tb):PE X (.BoolOp .And (a::b::rest) pos) (tAndV ta tb):=by
 intro pins s σ H Q I h
 refine BoolOp_and (thn (ha pins s σ H _ I h) fun v s1 ⟨x,H1,I1,r1,q1⟩=>?_)
 obtain ⟨c,rfl,q1⟩:=q1
 cases r1
 refine wpAny_truthy_bool ?_
 cases c with
 | true=>exact hb pins s1 σ H1 Q I1 q1
 | false=>exact ⟨.bl false,H1,I1,rfl,q1⟩
def tIf (t:TT) (ta tb:TE):TE:=fun σ H Q=>t σ H fun c H1=>if c=true then ta σ H1 Q else tb σ H1 Q
theorem pe_ifExp {c:Expr} (hc:PT X c tA) (ha:PE X a ta) (hb:PE X b tb):PE X (.IfExp c a b pos) (tIf tA ta tb):=by
 intro pins s σ H Q I h
 refine wpAny_IfExp (thn (hc pins s σ H _ I h) fun d s1 ⟨H1,I1,q1⟩=>?_)
 cases d with
 | true=>exact ha pins s1 σ H1 Q I1 q1
 | false=>exact hb pins s1 σ H1 Q I1 q1
end
def SqL (K:PySem.W.Frag) (H:Hp) (a:Addr) (xs:List V):Prop:=
 Rd H a (.lst xs) ∨
  ∃(o:Obj) (its:Array Value) (n:Nat),K.lookup a=some o∧o.cls=.type "list"∧o.dict=none∧o.data=.seq its n∧its.size≤sizeLine∧Vals xs its.toList
def SqT (K:PySem.W.Frag) (H:Hp) (a:Addr) (xs:List V):Prop:=
 Rd H a (.tup xs) ∨
  ∃(o:Obj) (its:Array Value) (n:Nat),K.lookup a=some o∧o.cls=.type "tuple"∧o.data=.seq its n∧its.size≤sizeLine∧Vals xs its.toList
def absV:Value→Option V
 | .none=>some .non
 | .bool b=>some (.bl b)
 | .int i _=>some (.int i)
 | .str x _=>some (.str x)
 | .bytes b _=>some (.byt b)
 | .float b _=>some (.flt b)
 | .ref a=>some (.ref a)
 | .type n=>some (.ty n)
 | _=>none
theorem RelV.abs {x:V} {u:Value} (r:RelV x u):absV u=some x:=by
 cases x with
 | non=>cases r;rfl
 | bl _=>cases r;rfl
 | int _=>obtain ⟨t,rfl⟩:=r;rfl
 | str _=>obtain ⟨t,rfl⟩:=r;rfl
 | byt _=>obtain ⟨t,rfl⟩:=r;rfl
 | flt _=>obtain ⟨t,rfl⟩:=r;rfl
 | ref _=>cases r;rfl
 | ty _=>cases r;rfl
theorem RelV.inj {x y:V} {u:Value} (r:RelV x u) (q:RelV y u):x=y:=Option.some.inj (r.abs.symm.trans q.abs)
theorem Vals.inj:∀{xs ys:List V} {us:List Value},Vals xs us→Vals ys us→xs=ys
 | _,_,_,.nil,.nil=>rfl
 | _,_,_,.cons r t,.cons r' t'=>by rw[r.inj r',Vals.inj t t']
section
variable {X:Cx} {pins:List (Addr×Obj)} {σ:St} {H:Hp} {s:Shared} {a:Addr} {xs ys:List V}
theorem SqL.of {K:PySem.W.Frag} (h:H a=some (.lst xs)):SqL K H a xs:=.inl (.inl h)
theorem SqT.of {K:PySem.W.Frag} (h:H a=some (.tup xs)):SqT K H a xs:=.inl (.inl h)
theorem Inv.list (I:Inv X pins σ H s) (h:SqL X.K H a xs):∃its:List Value,Vals xs its∧PlainL s.heap a its.toArray∧xs.length≤sizeLine:=by
 rcases h with h|⟨o,its,n,hk,hc,hd,hs,hz,r⟩
 ·obtain ⟨z,its,n,r,e⟩:=h.ok I.hok
  exact ⟨its,r,⟨_,n,e,rfl,rfl,rfl⟩,z⟩
 ·refine ⟨its.toList,r,⟨o,n,I.kIn a o hk,hc,hd,by simpa using hs⟩,?_⟩
  have e:=r.length
  simp only[Array.length_toList] at e
  omega
theorem Inv.tuple (I:Inv X pins σ H s) (h:SqT X.K H a xs):∃its:List Value,Vals xs its∧IsTup s.heap a its.toArray∧xs.length≤sizeLine:=by
 rcases h with h|⟨o,its,n,hk,hc,hs,hz,r⟩
 ·obtain ⟨z,its,r,p⟩:=h.ok I.hok
  exact ⟨its,r,p,z⟩
 ·refine ⟨its.toList,r,⟨o,I.kIn a o hk,hc,n,by simpa using hs⟩,?_⟩
  have e:=r.length
  simp only[Array.length_toList] at e
  omega
theorem Inv.list_inj (I:Inv X pins σ H s) (h:SqL X.K H a xs) (h':SqL X.K H a ys):xs=ys:=by
 obtain ⟨its,r,⟨o,n,e,_,_,d⟩,_⟩:=I.list h
 obtain ⟨its',r',⟨o',n',e',_,_,d'⟩,_⟩:=I.list h'
 rw[e] at e';cases e'
 rw[d] at d'
 injection d' with d1 _
 have:its=its':=by simpa using congrArg Array.toList d1
 subst this
 exact r.inj r'
theorem Inv.tuple_inj (I:Inv X pins σ H s) (h:SqT X.K H a xs) (h':SqT X.K H a ys):xs=ys:=by
 obtain ⟨its,r,⟨o,e,_,n,d⟩,_⟩:=I.tuple h
 obtain ⟨its',r',⟨o',e',_,n',d'⟩,_⟩:=I.tuple h'
 rw[e] at e';cases e'
 rw[d] at d'
 injection d' with d1 _
 have:its=its':=by simpa using congrArg Array.toList d1
 subst this
 exact r.inj r'
end
abbrev Cx.wish (X:Cx) (E:Value→Shared→Prop):Cx:={ X with xe:=E }
abbrev Cx.nox (X:Cx):Cx:=X.wish fun _ _=>False
theorem Cx.Ok.wish {X:Cx} (ok:X.Ok) (E:Value→Shared→Prop):(X.wish E).Ok:=
 ⟨ok.mod,ok.kind,ok.glob,ok.blt,ok.above,ok.inj,ok.has,ok.cab,ok.hd,ok.frames,ok.stk,ok.exf,ok.bs,ok.bsz,ok.noex,ok.exfs,ok.funs,ok.frf⟩
theorem Cx.Ok.unwish {X:Cx} {E:Value→Shared→Prop} (ok:(X.wish E).Ok):X.Ok:=
 ⟨ok.mod,ok.kind,ok.glob,ok.blt,ok.above,ok.inj,ok.has,ok.cab,ok.hd,ok.frames,ok.stk,ok.exf,ok.bs,ok.bsz,ok.noex,ok.exfs,ok.funs,ok.frf⟩
section
variable {X:Cx} {pins:List (Addr×Obj)} {σ:St} {H:Hp} {s:Shared} {E:Value→Shared→Prop}
theorem Inv.wish (I:Inv X pins σ H s) (E:Value→Shared→Prop):Inv (X.wish E) pins σ H s:=⟨I.ok.wish E,I.os,I.bare,I.base,I.loc,I.cell,I.free,I.freeC,I.pin,I.hok,I.len⟩
theorem Inv.unwish (I:Inv (X.wish E) pins σ H s):Inv X pins σ H s:=⟨I.ok.unwish,I.os,I.bare,I.base,I.loc,I.cell,I.free,I.freeC,I.pin,I.hok,I.len⟩
theorem SP.unwish {D:Ends} {f:Flow} {s':Shared} (h:SP (X.wish E) pins D f s'):SP X pins D f s':=by
 cases f with
 | next=>obtain ⟨σ',H',I,q⟩:=h;exact ⟨σ',H',I.unwish,q⟩
 | brk=>obtain ⟨σ',H',I,q⟩:=h;exact ⟨σ',H',I.unwish,q⟩
 | cont=>obtain ⟨σ',H',I,q⟩:=h;exact ⟨σ',H',I.unwish,q⟩
 | ret u=>obtain ⟨v,σ',H',I,r,q⟩:=h;exact ⟨v,σ',H',I.unwish,r,q⟩
theorem PSs.nox {st:List Stmt} {t:TS} (h:PSs X.nox st t):PSs X st t:=fun pins s σ H D I hw=>
 wpAny_mono (h pins s σ H D (I.wish _) hw) (fun _ _ q=>q.unwish) fun _ _ z=>False.elim z
end
section
variable {X:Cx} {st:Stmt} {rest:List Stmt} {t u:TS} {e:Expr} {te:TE} {pos:Pos}
def tNext:TS:=fun D σ H=>D.nx σ H
def tSeq (t u:TS):TS:=fun D σ H=>t { D with nx:=u D } σ H
theorem Zr:PSs X [] tNext:=fun _ _ σ H _ I h=>wpAny_execs_nil ⟨σ,H,I,h⟩
theorem Zb (h1:PS X st t) (h2:PSs X rest u):PSs X (st::rest) (tSeq t u):=by
 intro pins s σ H D I h
 refine wpAny_execs_cons (thn (h1 pins s σ H { D with nx:=u D } I h) fun f s1 q=>?_)
 cases f with
 | next=>
  obtain ⟨σ',H',I',q⟩:=q
  exact h2 pins s1 σ' H' D I' q
 | ret v=>exact q
 | brk=>exact q
 | cont=>exact q
theorem Ze (h1:PS X st t):PSs X [st] t:=by
 intro pins s σ H D I h
 refine wpAny_execs_cons (thn (h1 pins s σ H D I h) fun f s1 q=>?_)
 cases f with
 | next=>exact wpAny_execs_nil q
 | ret v=>exact q
 | brk=>exact q
 | cont=>exact q
def tBreak:TS:=fun D σ H=>D.bk σ H
theorem ps_break:PS X (.Break pos) tBreak:=fun _ _ σ H _ I h=>wpAny_Break ⟨σ,H,I,h⟩
theorem Inv.quiet {pins:List (Addr×Obj)} {σ:St} {H:Hp} {s:Shared} (I:Inv X pins σ H s):interactive X.env=false:=by simp[interactive,I.ok.kind]
def tDrop (te:TE):TS:=fun D σ H=>te σ H fun _ H1=>D.nx σ H1
theorem Z6 (he:PE X e te) (hs:swapsWith e none pos.line X.env=pure false:=by rfl):PS X (.Expr e pos) (tDrop te):=by
 intro pins s σ H D I h
 exact wpAny_Expr_any (thn (he pins s σ H _ I h) fun v s1 ⟨x,H1,I1,r1,q1⟩=>⟨σ,H1,I1,q1⟩) I.quiet hs
def tRet (te:TE):TS:=fun D σ H=>te σ H D.rt
theorem Zj (he:PE X e te):PS X (.Return (some e) pos) (tRet te):=by
 intro pins s σ H D I h
 exact wpAny_Return_some (thn (he pins s σ H _ I h) fun v s1 ⟨x,H1,I1,r1,q1⟩=>⟨x,σ,H1,I1,r1,q1⟩)
def tIfS (c:TT) (t u:TS):TS:=fun D σ H=>c σ H fun b H1=>if b=true then t D σ H1 else u D σ H1
theorem Z4 {c:Expr} {a b:List Stmt} {tc:TT} (hc:PT X c tc) (ha:PSs X a t) (hb:PSs X b u):PS X (.If c a b pos) (tIfS tc t u):=by
 intro pins s σ H D I h
 refine wpAny_If (thn (hc pins s σ H _ I h) fun d s1 ⟨H1,I1,q1⟩=>?_)
 cases d with
 | true=>exact ha pins s1 σ H1 D I1 q1
 | false=>exact hb pins s1 σ H1 D I1 q1
def tNever:TS:=fun _ _ _=>False
theorem ps_never:PS X st tNever:=fun _ _ _ _ _ _ h=>h.elim
end
abbrev TG:=V→St→Hp→(St→Hp→Prop)→Prop
abbrev TGs:=List V→St→Hp→(St→Hp→Prop)→Prop
def PG (X:Cx) (target:Expr) (t:TG):Prop:=
 ∀(pins:List (Addr×Obj)) (s:Shared) (σ:St) (H:Hp) (v:V) (u:Value) (Q:St→Hp→Prop),Inv X pins σ H s→RelV v u→t v σ H Q→
  wpAny (model X.prog X.w) X.A (assign target X.env u) (fun _ s'=>∃σ' H',Inv X pins σ' H' s'∧Q σ' H') X.xe s
def PGs (X:Cx) (ts:List Expr) (t:TGs):Prop:=
 ∀(pins:List (Addr×Obj)) (s:Shared) (σ:St) (H:Hp) (vs:List V) (us:List Value) (Q:St→Hp→Prop),Inv X pins σ H s→Vals vs us→t vs σ H Q→
  wpAny (model X.prog X.w) X.A (assignInOrder ((assignEach ts X.env).map (·.2)) us) (fun _ s'=>∃σ' H',Inv X pins σ' H' s'∧Q σ' H') X.xe s
abbrev TSet:=V→V→V→Hp→(Hp→Prop)→Prop
def PSet (X:Cx) (t:TSet):Prop:=
 ∀(pins:List (Addr×Obj)) (s:Shared) (σ:St) (H:Hp) (o i v:V) (ov iv u:Value) (Q:Hp→Prop),Inv X pins σ H s→RelV o ov→RelV i iv→RelV v u→t o i v H Q→
  wpAny (model X.prog X.w) X.A (setItem ov iv u) (fun _ s'=>∃H',Inv X pins σ H' s'∧Q H') X.xe s
abbrev TIp:=V→V→Hp→VK→Prop
def PIp (X:Cx) (op:Operator) (t:TIp):Prop:=
 ∀(pins:List (Addr×Obj)) (s:Shared) (σ:St) (H:Hp) (x y:V) (v u:Value) (Q:VK),Inv X pins σ H s→RelV x v→RelV y u→t x y H Q→
  wpAny (model X.prog X.w) X.A (inplaceOp op v u) (EP X pins σ Q) X.xe s
section
variable {X:Cx} {pos:Pos}
def gName (i:Nat):TG:=fun v σ H Q=>Q (σ.set i (some v)) H
theorem Z3 {i:Nat} {x:Str} (hN:X.N.Nodup) (hi:X.N[i]?=some x) (hx:Loc X.env.scope x) (hf:X.fn x=true∨X.env.scope.names.lookup x=some .local:=by first|exact .inl rfl|exact .inr rfl|assumption):PG X (.Name x pos) (gName i):=by
 intro pins s σ H v u Q I r h
 exact wpAny_assign_Name (store_ok I hN hi hx r (fun s' I'=>⟨_,H,I',h⟩) hf)
def gNil:TGs:=fun vs σ H Q=>vs=[]∧Q σ H
def gCons (t:TG) (u:TGs):TGs:=fun vs σ H Q=>∃v r,vs=v::r∧t v σ H fun σ' H'=>u r σ' H' Q
theorem pgs_nil:PGs X [] gNil:=by
 intro pins s σ H vs us Q I r h
 obtain ⟨e,h⟩:=h
 subst e
 cases r
 exact assignInOrder_nil ⟨σ,H,I,h⟩
theorem Qg {e:Expr} {es:List Expr} {t:TG} {u:TGs} (h1:PG X e t) (h2:PGs X es u)
  (hs:(assignEach (e::es) X.env).map (·.2)=assign e X.env::(assignEach es X.env).map (·.2):=by rfl):PGs X (e::es) (gCons t u):=by
 intro pins s σ H vs us Q I r h
 obtain ⟨v,vr,e1,h⟩:=h
 subst e1
 cases r with
 | cons r rr=>
  rw[hs]
  refine assignInOrder_cons (thn (h1 pins s σ H _ _ _ I r h) fun _ s1 ⟨σ1,H1,I1,q1⟩=>?_)
  exact h2 pins s1 σ1 H1 _ _ Q I1 rr q1
def gTup (K:PySem.W.Frag) (n:Nat) (t:TGs):TG:=fun v σ H Q=>∃a xs,v=.ref a∧SqT K H a xs∧xs.length=n∧t xs σ H Q
theorem pg_tup {es:List Expr} {k:Nat} {t:TGs} {n:Nat} (hc:X.calm=true) (h:PGs X es t)
  (hn:(assignEach es X.env).length=n:=by rfl) (hst:(assignEach es X.env).findIdx? (·.1)=none:=by rfl):PG X (.Tuple es k pos) (gTup X.K n t):=by
 intro pins s σ H v u Q I r hw
 obtain ⟨a,xs,e1,hq,hl,hw⟩:=hw
 subst e1
 cases r
 obtain ⟨its,rv,ht,hz⟩:=I.tuple hq
 refine assign_Tuple_tuple (I.ok.hd hc) ht (by simp[hn,← hl,rv.length]) hst fun h' hx=>?_
 have I1:Inv X pins σ H { s with heap:=h' }:=I.kept (t':=s.toks) fun b o e=>hx b o (Nat.ne_of_lt (Heap.lt_size e)) e
 exact h pins _ σ H xs _ Q I1 (by simpa using rv) hw
def gSub (to ti:TE) (t:TSet):TG:=fun v σ H Q=>to σ H fun o H1=>ti σ H1 fun i H2=>t o i v H2 fun H3=>Q σ H3
theorem pg_sub {o i:Expr} {to ti:TE} {t:TSet} (ho:PE X o to) (hi:PE X i ti) (hs:PSet X t)
  (ha:∀v,assign (.Subscript o i pos) X.env v=(do
   let ov ← holding [v] (eval o X.env)
   let iv ← holding [v,ov] (eval i X.env)
   standAt pos
   holding [v,ov,iv] (setItem ov iv v)
   release [v,ov,iv] []):=by intro _;rfl):PG X (.Subscript o i pos) (gSub to ti t):=by
 intro pins s σ H v u Q I r h
 rw[ha]
 refine wpAny_bind (wpAny_holding (thn (ho pins s σ H _ I h) fun ov s1 ⟨x,H1,I1,r1,q1⟩=>?_))
 refine wpAny_bind (wpAny_holding (thn (hi pins s1 σ H1 _ I1 q1) fun iv s2 ⟨y,H2,I2,r2,q2⟩=>?_))
 refine wpAny_bind (wpAny_standAt (wpAny_bind (wpAny_holding (thn (hs pins s2 σ H2 x y v ov iv u _ I2 r1 r2 r q2) fun _ s3 ⟨H3,I3,q3⟩=>?_))))
 exact wpAny_release ⟨σ,H3,I3,q3⟩
def tAsg (te:TE) (g:TG):TS:=fun D σ H=>te σ H fun x H1=>g x σ H1 D.nx
theorem ps_asg {tg e:Expr} {te:TE} {g:TG} (he:PE X e te) (hg:PG X tg g) (hs:swapsWithSole [tg] e pos.line X.env=pure false:=by rfl) (hw:swappedStores [tg] e X.env=pure none:=by rfl)
  (h1:(assignEach [tg] X.env).map (·.2)=[assign tg X.env]:=by rfl):PS X (.Assign [tg] e pos) (tAsg te g):=by
 intro pins s σ H D I h
 refine wpAny_Assign_stores (thn (he pins s σ H _ I h) fun v s1 ⟨x,H1,I1,r1,q1⟩=>?_) hs hw
 rw[h1]
 exact thn (hg pins s1 σ H1 x v _ I1 r1 q1) fun _ s2 q=>q
theorem Zo {i:Nat} {x:Str} {e:Expr} {te:TE} {pos':Pos} (hN:X.N.Nodup) (hi:X.N[i]?=some x) (hx:Loc X.env.scope x) (he:PE X e te) (hs:swapsWith e (some (.Name x pos')) pos.line X.env=pure false:=by rfl) (hf:X.fn x=true∨X.env.scope.names.lookup x=some .local:=by first|exact .inl rfl|exact .inr rfl|assumption):
  PS X (.Assign [.Name x pos'] e pos) (tAsg te (gName i)):=by
 intro pins s σ H D I h
 refine wpAny_Assign_Name (thn (he pins s σ H _ I h) fun v s1 ⟨y,H1,I1,r1,q1⟩=>?_) hs
 exact store_ok I1 hN hi hx r1 (fun s2 I2=>⟨_,H1,I2,q1⟩) hf
def tAug (i:Nat) (te:TE) (ti:TIp):TS:=fun D σ H=>∃x,σ[i]?=some (some x)∧te σ H fun y H1=>ti x y H1 fun z H2=>D.nx (σ.set i (some z)) H2
theorem ps_aug {i:Nat} {x:Str} {e:Expr} {te:TE} {op:Operator} {ti:TIp} {pos':Pos} (hN:X.N.Nodup) (hi:X.N[i]?=some x) (hx:Loc X.env.scope x) (he:PE X e te) (ho:PIp X op ti) (hf:X.fn x=true∨X.env.scope.names.lookup x=some .local:=by first|exact .inl rfl|exact .inr rfl|assumption):
  PS X (.AugAssign (.Name x pos') op e pos) (tAug i te ti):=by
 intro pins s σ H D I h
 obtain ⟨v,e1,h⟩:=h
 obtain ⟨m,hn,hl⟩:=I.loc
 have vis:Vis X.env.scope x:=by rcases hx with k|k;exact .inl k;exact .inr (.inl k)
 obtain ⟨u,r,l⟩:=hl i x v hi e1 vis
 refine wpAny_AugAssign_Name ?_
 have go:wpAny (model X.prog X.w) X.A (eval e X.env) (fun w s₂=>wpAny (model X.prog X.w) X.A (inplaceOp op u w) (fun r s₃=>wpAny (model X.prog X.w) X.A (storeName X.env x r) (fun _=>SP X pins D .next) X.xe s₃) X.xe s₂) X.xe s:=by
  refine thn (he pins s σ H _ I h) fun w s1 ⟨y,H1,I1,r1,q1⟩=>?_
  refine thn (ho pins s1 σ H1 v y u w _ I1 r r1 q1) fun z s2 ⟨zv,H2,I2,r2,q2⟩=>?_
  exact store_ok I2 hN hi hx r2 (fun s3 I3=>⟨_,H2,I3,q2⟩) hf
 rcases l with ⟨hk,hm⟩|⟨hk,c,hc,hcell⟩
 ·exact wpAny_loadName_local I.ok.kind hk hn hm go
 ·rcases hk with hk|hk
  ·exact wpAny_loadName_cell I.ok.kind hk hc hcell go
  ·rcases hx with k|k
   ·have:X.env.scope.names.lookup x=some .free:=hk
    rw[k] at this;cases this
   ·have:X.env.scope.names.lookup x=some .free:=hk
    rw[k] at this;cases this
def ipI (f:Int→Int→Int):TIp:=fun x y H Q=>∃i j,x=.int i∧y=.int j∧Q (.int (f i j)) H
theorem ip_add:PIp X .Add (ipI fun i j=>i+j):=by
 intro pins s σ H x y v u Q I r1 r2 h
 obtain ⟨i,j,e1,e2,q⟩:=h
 subst e1;subst e2
 obtain ⟨t,rfl⟩:=r1
 obtain ⟨t',rfl⟩:=r2
 exact iadd_int ⟨.int _,H,I.tok _,⟨_,rfl⟩,q⟩
end
section
variable {X:Cx} {pos:Pos}
def tWhile (c:TT) (tb:TS):TS:=fun D σ H=>∃W:Nat→St→Hp→Prop,(∃m,W m σ H)∧∀m σ H,W m σ H→
 c σ H fun b H1=>if b=true then ∃N:St→Hp→Prop,(∀σ' H',N σ' H'→∃m',m'<m∧W m' σ' H')∧tb { D with nx:=N,ct:=N,bk:=D.nx } σ H1 else D.nx σ H1
theorem ps_while {c:Expr} {body:List Stmt} {tc:TT} {tb:TS} (hp:PassesOwn (model X.prog X.w) X.A X.env X.xe) (hc:PT X c tc) (hb:PSs X body tb):PS X (.While c body [] pos) (tWhile tc tb):=by
 intro pins s σ H D I h
 obtain ⟨W,⟨m0,w0⟩,turn⟩:=h
 refine wpAny_While (codeAny_whileLoop (fun n s'=>∃σ' H',Inv X pins σ' H' s'∧W n σ' H') ?_ m0 ⟨σ,H,I,w0⟩)
 rintro n s1 ⟨σ1,H1,I1,w1⟩
 refine wpAny_passesOwn hp (thn (hc pins s1 σ1 H1 _ I1 (turn n σ1 H1 w1)) fun b s2 ⟨H2,I2,q2⟩=>?_)
 cases b with
 | true=>
  obtain ⟨N,hN,q2⟩:=q2
  rw[if_pos rfl]
  refine wpAny_passesOwn hp (thn (hb pins s2 σ1 H2 _ I2 q2) fun f s3 q3=>?_)
  cases f with
  | next=>
   obtain ⟨σ3,H3,I3,n3⟩:=q3
   obtain ⟨m',hm,w3⟩:=hN σ3 H3 n3
   exact ⟨m',hm,σ3,H3,I3,w3⟩
  | cont=>
   obtain ⟨σ3,H3,I3,n3⟩:=q3
   obtain ⟨m',hm,w3⟩:=hN σ3 H3 n3
   exact ⟨m',hm,σ3,H3,I3,w3⟩
  | brk=>exact q3
  | ret v=>exact q3
 | false=>
  rw[if_neg Bool.false_ne_true]
  exact wpAny_execs_nil ⟨σ1,H2,I2,q2⟩
end
structure It where
 go:Nat→Hp→Prop
 yld:Nat→Hp→V→Hp→Prop
 stop:Nat→Hp→Prop
def FpOk (X:Cx) (pins:List (Addr×Obj)) (H:Hp) (b:Addr):Prop:=
 H b=none∧b≠X.env.locals∧b∉X.fs∧(b∈X.ex∨X.s_0.heap.objs.size≤b)∧(∀x c,X.env.cells.lookup x=some c→c≠b)∧∀p∈X.pn++pins,p.1≠b
theorem Inv.fpOk {X:Cx} {pins:List (Addr×Obj)} {σ:St} {H H':Hp} {s:Shared} {b:Addr} (I:Inv X pins σ H s) (hb:s.heap.objs.size≤b) (hn:H' b=none):FpOk X pins H' b:=by
 refine ⟨hn,Nat.ne_of_gt (Nat.lt_of_lt_of_le I.lt hb),I.nofs hb,.inr (Nat.le_trans I.sz hb),fun x c e z=>?_,fun p hp z=>?_⟩
 ·obtain ⟨v,q⟩:=I.cell x c e
  exact absurd (Nat.lt_of_lt_of_le q.lt (by rw[z];exact hb)) (Nat.lt_irrefl _)
 ·exact absurd (Nat.lt_of_lt_of_le (Heap.lt_size (I.pin p hp).1) (by rw[z];exact hb)) (Nat.lt_irrefl _)
structure Turn (P:Program) (w:World) (K:PySem.W.Frag) (tg:Expr) (J:It) (fp:List Addr) (it:Addr) (tn:Nat→Heap→Prop):Prop where
 mem:it∈fp
 obj:∀i h,tn i h→∀b∈fp,∃o,h.get? b=some o∧∀v,o.data≠.cell v
 keep:∀i h h',tn i h→(∀b∈fp,∀o,h.get? b=some o→h'.get? b=some o)→tn i h'
 item:∀(X:Cx),X.prog=P→X.w=w→X.K=K→X.calm=true→∀(i:Nat) (pins:List (Addr×Obj)) (s:Shared) (σ:St) (H:Hp) (E:Value→Shared→Prop),Inv X pins σ H s→(∀b∈fp,FpOk X pins H b)→tn i s.heap→J.go i H→
  wpAny (model P w) X.A (pyNext (.ref it)) (fun r s1=>∃u,r=some u ∧
   wpAny (model P w) X.A (letOwnedTupleGo tg (.ref it) u) (fun _ s2=>∃x H',Inv X pins σ H' s2∧RelV x u∧J.yld i H x H'∧tn (i+1) s2.heap∧∀b∈fp,H' b=none) E s1) E s
 done:∀(X:Cx),X.prog=P→X.w=w→X.K=K→X.calm=true→∀(i:Nat) (pins:List (Addr×Obj)) (s:Shared) (σ:St) (H:Hp) (E:Value→Shared→Prop),Inv X pins σ H s→(∀b∈fp,FpOk X pins H b)→tn i s.heap→J.stop i H→
  wpAny (model P w) X.A (pyNext (.ref it)) (fun r s1=>r=none∧Inv X pins σ H s1) E s
 self:∀(A:Around) (i:Nat) (s:Shared) (Q:Value→Shared→Prop) (E:Value→Shared→Prop),tn i s.heap→Q (.ref it) s→wpAny (model P w) A (pyIter (.ref it)) Q E s
abbrev TI:=St→Hp→(It→Hp→Prop)→Prop
def PIE (X:Cx) (pins:List (Addr×Obj)) (σ:St) (tg:Expr) (R:It→Hp→Prop) (itv:Value) (s2:Shared):Prop:=
 ∃(it:Addr) (fp:List Addr) (tn:Nat→Heap→Prop) (J:It) (H':Hp),itv=.ref it∧Inv X pins σ H' s2∧Turn X.prog X.w X.K tg J fp it tn∧tn 0 s2.heap∧(∀b∈fp,FpOk X pins H' b)∧R J H'
def PI (X:Cx) (tg iter:Expr) (wi:TI):Prop:=
 ∀(pins:List (Addr×Obj)) (s:Shared) (σ:St) (H:Hp) (R:It→Hp→Prop),Inv X pins σ H s→wi σ H R→
  wpAny (model X.prog X.w) X.A (eval iter X.env) (fun v s1=>wpAny (model X.prog X.w) X.A (pyIter v) (PIE X pins σ tg R) X.xe s1) X.xe s
theorem go_of {M:Model} {A:Around} {E:Value→Shared→Prop} {s:Shared} {tg:Expr} {it:Addr} {u:Value} {o:Obj} {n:String} {vs:Array Value} {Q:Unit→Shared→Prop} (ho:s.heap.get? it=some o) (hc:o.cls=.type n) (hd:o.data=.fields vs)
  (hn:["enumerate","zip","dict_itemiterator","dict_reverseitemiterator","odict_iterator","itertools.zip_longest","itertools.pairwise"].contains n=false) (hQ:Q () s):wpAny M A (letOwnedTupleGo tg (.ref it) u) Q E s:=by
 unfold letOwnedTupleGo
 cases tg<;>first
  | exact wpAny_pure hQ
  | (cases u<;>first
    | exact wpAny_pure hQ
    | (refine wpAny_bind (wpAny_load ho ?_);rw[hc,hd];show wpAny M A (if (["enumerate","zip","dict_itemiterator","dict_reverseitemiterator","odict_iterator","itertools.zip_longest","itertools.pairwise"].contains n&&vs[0]?==some (rawInt _))=true then _ else _) Q E s;rw[if_neg (by intro h;rw[hn,Bool.false_and] at h;cases h)];exact wpAny_pure hQ))
def Itl (K:PySem.W.Frag) (a:Addr):It:=
 ⟨fun i H=>∃xs x,SqL K H a xs∧xs[i]?=some x,fun i H x H'=>H'=H∧∀xs,SqL K H a xs→xs[i]?=some x,fun i H=>∃xs,SqL K H a xs∧xs.length≤i⟩
def Itt (K:PySem.W.Frag) (a:Addr):It:=
 ⟨fun i H=>∃xs x,SqT K H a xs∧xs[i]?=some x,fun i H x H'=>H'=H∧∀xs,SqT K H a xs→xs[i]?=some x,fun i H=>∃xs,SqT K H a xs∧xs.length≤i⟩
def Itr (lo:Int) (n:Nat):It:=⟨fun i _=>i<n,fun i H x H'=>H'=H∧x=.int (lo+i),fun i _=>n≤i⟩
theorem turn_list {P:Program} {w:World} {K:PySem.W.Frag} {tg:Expr} (a it:Addr):Turn P w K tg (Itl K a) [it] it (fun i h=>h.IsListIter it a i) where
 mem:=by simp
 obj:=fun i h st b hb=>by
  have e:b=it:=by simpa using hb
  subst e
  obtain ⟨o,e,c,d⟩:=st
  exact ⟨o,e,fun v z=>by rw[d] at z;cases z⟩
 keep:=fun i h h' st k=>st.at fun o e=>k it (by simp) o e
 item:=by
  intro X hP hw hK hc i pins s σ H E I hf st hg
  subst hP hw hK
  obtain ⟨xs,x,hq,hx⟩:=hg
  obtain ⟨its,rv,p,hz⟩:=I.list hq
  obtain ⟨u,hu,ru⟩:=rv.get hx
  obtain ⟨f0,f1,f2,f3,f4,f5⟩:=hf it (by simp)
  refine wpAny_pyNext_list_item st p.isList (x:=u) (by simpa using hu) fun h' st' sb=>?_
  have I1:Inv X pins σ H { s with heap:=h' }:=I.turned (t':=s.toks) (fun b o hb e=>(sb.2 b hb).trans e) f0 f1 f3 f4 f5
  obtain ⟨o,e,c,d⟩:=id st'
  exact ⟨u,rfl,go_of (s:={ s with heap:=h' }) e c d (by decide) ⟨x,H,I1,ru,⟨rfl,fun ys hy=>by rw[I.list_inj hy hq];exact hx⟩,st',fun b hb=>(hf b hb).1⟩⟩
 done:=by
  intro X hP hw hK hc i pins s σ H E I hf st hg
  subst hP hw hK
  obtain ⟨xs,hq,hx⟩:=hg
  obtain ⟨its,rv,p,hz⟩:=I.list hq
  obtain ⟨f0,f1,f2,f3,f4,f5⟩:=hf it (by simp)
  have hl:=rv.length
  exact wpAny_pyNext_list_end (I.ok.hd hc) st p.isList (by simp;omega) fun h' eb=>⟨rfl,I.turned (t':=s.toks) (fun b o hb e=>eb b o hb e) f0 f1 f3 f4 f5⟩
 self:=fun _ _ _ _ _ st h=>wpAny_pyIter_listiter st h
theorem turn_tuple {P:Program} {w:World} {K:PySem.W.Frag} {tg:Expr} (a it:Addr):Turn P w K tg (Itt K a) [it] it (fun i h=>h.IsTupleIter it a i) where
 mem:=by simp
 obj:=fun i h st b hb=>by
  have e:b=it:=by simpa using hb
  subst e
  obtain ⟨o,e,c,d⟩:=st
  exact ⟨o,e,fun v z=>by rw[d] at z;cases z⟩
 keep:=fun i h h' st k=>st.at fun o e=>k it (by simp) o e
 item:=by
  intro X hP hw hK hc i pins s σ H E I hf st hg
  subst hP hw hK
  obtain ⟨xs,x,hq,hx⟩:=hg
  obtain ⟨its,rv,p,hz⟩:=I.tuple hq
  obtain ⟨u,hu,ru⟩:=rv.get hx
  obtain ⟨f0,f1,f2,f3,f4,f5⟩:=hf it (by simp)
  refine wpAny_pyNext_tuple_item st (show s.heap.IsTuple a its.toArray from p) (x:=u) (by simpa using hu) fun h' st' sb=>?_
  have I1:Inv X pins σ H { s with heap:=h' }:=I.turned (t':=s.toks) (fun b o hb e=>(sb.2 b hb).trans e) f0 f1 f3 f4 f5
  obtain ⟨o,e,c,d⟩:=id st'
  exact ⟨u,rfl,go_of (s:={ s with heap:=h' }) e c d (by decide) ⟨x,H,I1,ru,⟨rfl,fun ys hy=>by rw[I.tuple_inj hy hq];exact hx⟩,st',fun b hb=>(hf b hb).1⟩⟩
 done:=by
  intro X hP hw hK hc i pins s σ H E I hf st hg
  subst hP hw hK
  obtain ⟨xs,hq,hx⟩:=hg
  obtain ⟨its,rv,p,hz⟩:=I.tuple hq
  obtain ⟨f0,f1,f2,f3,f4,f5⟩:=hf it (by simp)
  have hl:=rv.length
  exact wpAny_pyNext_tuple_end (I.ok.hd hc) st (show s.heap.IsTuple a its.toArray from p) (by simp;omega) fun h' eb=>⟨rfl,I.turned (t':=s.toks) (fun b o hb e=>eb b o hb e) f0 f1 f3 f4 f5⟩
 self:=fun _ _ _ _ _ st h=>wpAny_pyIter_tupleiter st h
theorem turn_range {P:Program} {w:World} {K:PySem.W.Frag} {tg:Expr} (it:Addr) (lo:Int) (n:Nat):Turn P w K tg (Itr lo n) [it] it (fun i h=>IsRangeIter h it (lo+(i:Nat)*1) ((n:Int)-(i:Nat)) 1) where
 mem:=by simp
 obj:=fun i h st b hb=>by
  have e:b=it:=by simpa using hb
  subst e
  exact ⟨_,st,fun v z=>by
   have z':Data.fields _=Data.cell v:=z
   cases z'⟩
 keep:=fun i h h' st k=>k it (by simp) _ st
 item:=by
  intro X hP hw hK hc i pins s σ H E I hf st hg
  subst hP hw hK
  obtain ⟨f0,f1,f2,f3,f4,f5⟩:=hf it (by simp)
  have W:=Walks.range (prog:=X.prog) (w:=X.w) (I.ok.hd hc) it lo 1 n
  refine W.item i s _ _ hg st fun v h' tk hv st' kk=>?_
  obtain ⟨t,rfl⟩:=hv
  have I1:Inv X pins σ H { s with heap:=h',toks:=tk }:=I.turned (fun b o hb e=>kk b o (by simpa using hb) e) f0 f1 f3 f4 f5
  refine ⟨_,rfl,go_of (s:={ s with heap:=h',toks:=tk }) (n:="range_iterator") st' rfl rfl (by decide) ⟨.int (lo+i),H,I1,⟨t,?_⟩,⟨rfl,rfl⟩,st',fun b hb=>(hf b hb).1⟩⟩
  rw[Int.mul_one]
 done:=by
  intro X hP hw hK hc i pins s σ H E I hf st hg
  subst hP hw hK
  obtain ⟨f0,f1,f2,f3,f4,f5⟩:=hf it (by simp)
  exact wpAny_pyNext_range_end (I.ok.hd hc) st (by have:n≤i:=hg;omega) fun h' eb=>⟨rfl,I.turned (t':=s.toks) (fun b o hb e=>eb b o hb e) f0 f1 f3 f4 f5⟩
 self:=fun _ _ _ _ _ st h=>wpAny_pyIter_rangeiter st h
section
variable {X:Cx} {tg:Expr}
def iList (K:PySem.W.Frag) (tl:TE):TI:=fun σ H R=>tl σ H fun x H1=>∃a,x=.ref a∧(∃xs,SqL K H1 a xs)∧R (Itl K a) H1
def iTup (K:PySem.W.Frag) (tl:TE):TI:=fun σ H R=>tl σ H fun x H1=>∃a,x=.ref a∧(∃xs,SqT K H1 a xs)∧R (Itt K a) H1
theorem J8 {l:Expr} {tl:TE} (hl:PE X l tl):PI X tg l (iList X.K tl):=by
 intro pins s σ H R I h
 refine thn (hl pins s σ H _ I h) fun v s1 ⟨x,H1,I1,r1,q1⟩=>?_
 obtain ⟨a,e,⟨xs,hq⟩,q⟩:=q1
 subst e
 cases r1
 obtain ⟨its,rv,p,hz⟩:=I1.list hq
 refine wpAny_pyIter_list p.isList ?_
 refine ⟨s1.heap.objs.size,[s1.heap.objs.size],_,_,H1,rfl,I1.kept (t':=s1.toks) fun b o e=>Heap.get?_push_of_some _ e,turn_list a _,⟨_,Heap.get?_push_size _ rfl,rfl,rfl⟩,fun b hb=>?_,q⟩
 have e:b=s1.heap.objs.size:=by simpa using hb
 subst e
 exact I1.fpOk (Nat.le_refl _) (I1.hok.fresh (Nat.le_refl _))
theorem pi_tup {l:Expr} {tl:TE} (hl:PE X l tl):PI X tg l (iTup X.K tl):=by
 intro pins s σ H R I h
 refine thn (hl pins s σ H _ I h) fun v s1 ⟨x,H1,I1,r1,q1⟩=>?_
 obtain ⟨a,e,⟨xs,hq⟩,q⟩:=q1
 subst e
 cases r1
 obtain ⟨its,rv,p,hz⟩:=I1.tuple hq
 refine wpAny_pyIter_tuple (show s1.heap.IsTuple a its.toArray from p) ?_
 refine ⟨s1.heap.objs.size,[s1.heap.objs.size],_,_,H1,rfl,I1.kept (t':=s1.toks) fun b o e=>Heap.get?_push_of_some _ e,turn_tuple a _,⟨_,Heap.get?_push_size _ rfl,rfl,rfl⟩,fun b hb=>?_,q⟩
 have e:b=s1.heap.objs.size:=by simpa using hb
 subst e
 exact I1.fpOk (Nat.le_refl _) (I1.hok.fresh (Nat.le_refl _))
theorem range_it {pins:List (Addr×Obj)} {σ:St} {H:Hp} {s:Shared} {R:It→Hp→Prop} {E:Value→Shared→Prop} {lo hi:Int} {t u v:Tok} {tk:Nat} (I:Inv X pins σ H s) (h1:-(2^62)≤lo) (h2:lo<2^62) (h3:-(2^62)≤hi) (h4:hi<2^62)
  (q:R (Itr lo (hi-lo).toNat) H):wpAny (model X.prog X.w) X.A (pyIter (.ref s.heap.objs.size)) (PIE X pins σ tg R) E { s with heap:=s.heap.push { cls:=.type "range",data:=.fields #[.int lo t,.int hi u,.int 1 v] },toks:=tk }:=by
 refine wpAny_pyIter_range (IsRange.new ..) (small_one h1 h2 h3 h4) ?_
 have I1:Inv X pins σ H { s with heap:=s.heap.push { cls:=.type "range",data:=.fields #[.int lo t,.int hi u,.int 1 v] },toks:=tk }:=I.kept fun b o e=>Heap.get?_push_of_some _ e
 refine ⟨(s.heap.push { cls:=.type "range",data:=.fields #[.int lo t,.int hi u,.int 1 v] }).objs.size,[(s.heap.push { cls:=.type "range",data:=.fields #[.int lo t,.int hi u,.int 1 v] }).objs.size],_,_,H,rfl,
  I1.kept (t':=tk) fun b o e=>Heap.get?_push_of_some _ e,turn_range _ lo (hi-lo).toNat,?_,fun b hb=>?_,q⟩
 ·have e1:lo+((0:Nat):Int)*1=lo:=by simp
  have e2:(((hi-lo).toNat:Nat):Int)-((0:Nat):Int)=Builtin.Range.rangeSize lo hi 1:=by rw[rangeSize_one];split<;>omega
  show IsRangeIter _ _ (lo+((0:Nat):Int)*1) ((((hi-lo).toNat:Nat):Int)-((0:Nat):Int)) 1
  rw[e1,e2]
  exact Heap.get?_push_size _ rfl
 ·have e:b=(s.heap.push { cls:=.type "range",data:=.fields #[.int lo t,.int hi u,.int 1 v] }).objs.size:=by simpa using hb
  subst e
  exact I1.fpOk (Nat.le_refl _) (I1.hok.fresh (Nat.le_refl _))
def iRng1 (ta:TA):TI:=fun σ H R=>ta σ H fun vs H1=>∃j:Int,vs=[.int j]∧-(2^62)≤j∧j<2^62∧R (Itr 0 j.toNat) H1
def iRng2 (ta:TA):TI:=fun σ H R=>ta σ H fun vs H1=>∃i j:Int,vs=[.int i,.int j]∧(-(2^62)≤i∧i<2^62∧-(2^62)≤j∧j<2^62)∧R (Itr i (j-i).toNat) H1
theorem pi_range1 {a:Expr} {ta:TA} {p pos:Pos} (hg:Gl X "range") (hm:X.mg "range"=none) (ha:PA X [a] ta) (hs:starEach [a] X.env=[(false,eval a X.env)]:=by rfl):PI X tg (.Call (.Name "range" p) [a] [] pos) (iRng1 ta):=by
 intro pins s σ H R I h
 refine Call_ (ld_blt I hg hm boot_range (PyProof.Rows.callWith_type1 (thn (ha pos pins s σ H _ I h) fun us s1 ⟨vs,H1,I1,r1,q1⟩=>?_) hs rfl))
 obtain ⟨j,e,q1,q2,q⟩:=q1
 subst e
 cases r1 with
 | cons r rr=>
  cases rr
  obtain ⟨t,rfl⟩:=r
  exact call_range_1 (range_it I1 (by omega) (by omega) q1 q2 (by simpa using q))
theorem pi_range2 {a b:Expr} {ta:TA} {p pos:Pos} (hg:Gl X "range") (hm:X.mg "range"=none) (ha:PA X [a,b] ta) (hs:starEach [a,b] X.env=[(false,eval a X.env),(false,eval b X.env)]:=by rfl) (hs2:starEach [b] X.env=[(false,eval b X.env)]:=by rfl):
  PI X tg (.Call (.Name "range" p) [a,b] [] pos) (iRng2 ta):=by
 intro pins s σ H R I h
 refine Call_ (ld_blt I hg hm boot_range (PyProof.Rows.callWith_type1 (thn (ha pos pins s σ H _ I h) fun us s1 ⟨vs,H1,I1,r1,q1⟩=>?_) (by rw[hs,hs2]) (by rw[hs2];rfl)))
 obtain ⟨i,j,e,⟨q1,q2,q3,q4⟩,q⟩:=q1
 subst e
 cases r1 with
 | cons r rr=>
  cases rr with
  | cons r' rr=>
   cases rr
   obtain ⟨t,rfl⟩:=r
   obtain ⟨t',rfl⟩:=r'
   exact call_range_2 (range_it I1 q1 q2 q3 q4 q)
def tFor (wi:TI) (g:TG) (tb:TS):TS:=fun D σ H=>wi σ H fun J H1=>∃W:Nat→Nat→St→Hp→Prop,(∃m,W 0 m σ H1)∧∀i m σ H,W i m σ H→
 (J.stop i H∧D.nx σ H)∨(J.go i H∧∃N:St→Hp→Prop,(∀σ' H',N σ' H'→∃m',m'<m∧W (i+1) m' σ' H')∧∀x H',J.yld i H x H'→g x σ H' fun σ2 H2=>tb { D with nx:=N,ct:=N,bk:=D.nx } σ2 H2)
def pinsAt (fp:List Addr) (h:Heap):List (Addr×Obj):=fp.filterMap fun b=>(h.get? b).map fun o=>(b,o)
theorem mem_pinsAt {fp:List Addr} {h:Heap} {b:Addr} {o:Obj} (hb:b∈fp) (e:h.get? b=some o):(b,o)∈pinsAt fp h:=List.mem_filterMap.mpr ⟨b,hb,by rw[e];rfl⟩
theorem of_pinsAt {fp:List Addr} {h:Heap} {p:Addr×Obj} (hp:p∈pinsAt fp h):p.1∈fp∧h.get? p.1=some p.2:=by
 obtain ⟨b,hb,e⟩:=List.mem_filterMap.mp hp
 cases q:h.get? b with
 | none=>rw[q] at e;cases e
 | some o=>
  rw[q] at e
  have e':(b,o)=p:=Option.some.inj e
  subst e'
  exact ⟨hb,q⟩
theorem Inv.pinned {pins:List (Addr×Obj)} {σ:St} {H:Hp} {s:Shared} {fp:List Addr} (I:Inv X pins σ H s) (hf:∀b∈fp,FpOk X pins H b) (ho:∀b∈fp,∃o,s.heap.get? b=some o∧∀v,o.data≠.cell v):Inv X (pins++pinsAt fp s.heap) σ H s:=
 I.pins_of fun p hp=>(List.mem_append.mp hp).elim (fun z=>I.pin p (List.mem_append_right _ z)) fun z=>by
  obtain ⟨hb,e⟩:=of_pinsAt z
  obtain ⟨f0,f1,f2,_⟩:=hf p.1 hb
  obtain ⟨o,e',d⟩:=ho p.1 hb
  rw[e] at e';cases e'
  exact ⟨e,f0,f1,f2,d⟩
theorem Inv.unpinned {pins pl:List (Addr×Obj)} {σ:St} {H:Hp} {s:Shared} (I:Inv X (pins++pl) σ H s):Inv X pins σ H s:=I.pins_of fun p hp=>I.pin p (List.mem_append_right _ (List.mem_append_left _ hp))
theorem Y2 {iter:Expr} {body:List Stmt} {wi:TI} {g:TG} {tb:TS} {pos:Pos} (hp:PassesOwn (model X.prog X.w) X.A X.env X.xe) (hc:X.calm=true) (hi:PI X tg iter wi) (hg:PG X tg g) (hb:PSs X body tb)
  (hs:∀x,foldedSetIterable iter X.env x=pure x:=by intro _;rfl):PS X (.For tg iter body [] pos) (tFor wi g tb):=by
 intro pins s σ H D I h
 refine wpAny_For (thn (hi pins s σ H _ I h) fun v s1 h1=>thn h1 fun itv s2 h2=>?_) hs
 obtain ⟨it,fp,tn,J,H2,e,I2,T,st2,f2,W,⟨m0,w0⟩,turn⟩:=h2
 subst e
 -- what stays true of the iterator's objects through the loop
 have stat:∀{H':Hp},(∀b∈fp,H' b=none)→∀b∈fp,FpOk X pins H' b:=fun hn b hb=>⟨hn b hb,(f2 b hb).2⟩
 refine codeAny_forLoop_any (fun n s'=>∃i σ' H',Inv X pins σ' H' s'∧tn i s'.heap∧(∀b∈fp,H' b=none)∧W i n σ' H') ?_ m0 ⟨0,σ,H2,I2,st2,fun b hb=>(f2 b hb).1,w0⟩
 rintro n s3 ⟨i,σ3,H3,I3,st3,fr3,w3⟩
 rcases turn i n σ3 H3 w3 with ⟨stop,qn⟩|⟨go,N,hN,step⟩
 ·refine wpAny_passesOwn hp (thn (T.done X rfl rfl rfl hc i pins s3 σ3 H3 X.xe I3 (stat fr3) st3 stop) fun r s4 ⟨hr,I4⟩=>?_)
  subst hr
  exact wpAny_execs_nil ⟨σ3,H3,I4,qn⟩
 ·refine wpAny_passesOwn hp (thn (T.item X rfl rfl rfl hc i pins s3 σ3 H3 X.xe I3 (stat fr3) st3 go) fun r s4 ⟨u,hr,h4⟩=>?_)
  subst hr
  refine wpAny_passesOwn hp (thn h4 fun _ s5 ⟨x,H5,I5,r5,y5,st5,fr5⟩=>?_)
  have I5':=I5.pinned (stat fr5) (T.obj _ _ st5)
  refine wpAny_passesOwn hp (thn (hg _ s5 σ3 H5 x u _ I5' r5 (step x H5 y5)) fun _ s6 ⟨σ6,H6,I6,q6⟩=>?_)
  refine wpAny_passesOwn hp (thn (hb _ s6 σ6 H6 _ I6 q6) fun f s7 q7=>?_)
  have again:∀{σ7:St} {H7:Hp},Inv X (pins++pinsAt fp s5.heap) σ7 H7 s7→N σ7 H7→∃m,m<n∧∃i σ' H',Inv X pins σ' H' s7∧tn i s7.heap∧(∀b∈fp,H' b=none)∧W i m σ' H':=fun {σ7 H7} I7 n7=>by
   obtain ⟨m',hm,w7⟩:=hN σ7 H7 n7
   refine ⟨m',hm,i+1,σ7,H7,I7.unpinned,T.keep _ _ _ st5 fun b hb o e=>(I7.pin (b,o) (List.mem_append_right _ (List.mem_append_right _ (mem_pinsAt hb e)))).1,fun b hb=>?_,w7⟩
   obtain ⟨o,e,d⟩:=T.obj _ _ st5 b hb
   exact (I7.pin (b,o) (List.mem_append_right _ (List.mem_append_right _ (mem_pinsAt hb e)))).2.1
  cases f with
  | next=>obtain ⟨σ7,H7,I7,n7⟩:=q7;exact again I7 n7
  | cont=>obtain ⟨σ7,H7,I7,n7⟩:=q7;exact again I7 n7
  | brk=>obtain ⟨σ7,H7,I7,q7⟩:=q7;exact ⟨σ7,H7,I7.unpinned,q7⟩
  | ret v=>obtain ⟨x7,σ7,H7,I7,r7,q7⟩:=q7;exact ⟨x7,σ7,H7,I7.unpinned,r7,q7⟩
end
theorem for_list {K:PySem.W.Frag} {a:Addr} {xs:List V} {g:TG} {tb:TS} {D:Ends} {σ:St} {H:Hp} (Pv:Nat→St→Hp→Prop) (h0:Pv 0 σ H) (hl:∀i σ H,i≤xs.length→Pv i σ H→SqL K H a xs)
  (hs:∀i x σ H,xs[i]?=some x→Pv i σ H→g x σ H fun σ2 H2=>tb { D with nx:=Pv (i+1),ct:=Pv (i+1),bk:=D.nx } σ2 H2) (hd:∀σ H,Pv xs.length σ H→D.nx σ H):
  ∃W:Nat→Nat→St→Hp→Prop,(∃m,W 0 m σ H)∧∀i m σ H,W i m σ H→
   ((Itl K a).stop i H∧D.nx σ H)∨((Itl K a).go i H∧∃N:St→Hp→Prop,(∀σ' H',N σ' H'→∃m',m'<m∧W (i+1) m' σ' H')∧∀x H',(Itl K a).yld i H x H'→g x σ H' fun σ2 H2=>tb { D with nx:=N,ct:=N,bk:=D.nx } σ2 H2):=by
 refine ⟨fun i m σ H=>m=xs.length-i∧i≤xs.length∧Pv i σ H,⟨xs.length,by simp,Nat.zero_le _,h0⟩,?_⟩
 rintro i m σ H ⟨rfl,hi,p⟩
 have q:=hl i σ H hi p
 by_cases hlt:i<xs.length
 ·refine .inr ⟨⟨xs,xs[i],q,by simp[hlt]⟩,Pv (i+1),fun σ' H' p'=>⟨xs.length-(i+1),by omega,rfl,hlt,p'⟩,fun x H' y=>?_⟩
  obtain ⟨e,y⟩:=y
  subst e
  exact hs i x σ _ (y xs q) p
 ·have e:i=xs.length:=by omega
  subst e
  exact .inl ⟨⟨xs,q,Nat.le_refl _⟩,hd σ H p⟩
theorem for_range {lo:Int} {n:Nat} {g:TG} {tb:TS} {D:Ends} {σ:St} {H:Hp} (Pv:Nat→St→Hp→Prop) (h0:Pv 0 σ H)
  (hs:∀i σ H,i<n→Pv i σ H→g (.int (lo+i)) σ H fun σ2 H2=>tb { D with nx:=Pv (i+1),ct:=Pv (i+1),bk:=D.nx } σ2 H2) (hd:∀σ H,Pv n σ H→D.nx σ H):
  ∃W:Nat→Nat→St→Hp→Prop,(∃m,W 0 m σ H)∧∀i m σ H,W i m σ H→
   ((Itr lo n).stop i H∧D.nx σ H)∨((Itr lo n).go i H∧∃N:St→Hp→Prop,(∀σ' H',N σ' H'→∃m',m'<m∧W (i+1) m' σ' H')∧∀x H',(Itr lo n).yld i H x H'→g x σ H' fun σ2 H2=>tb { D with nx:=N,ct:=N,bk:=D.nx } σ2 H2):=by
 refine ⟨fun i m σ H=>m=n-i∧i≤n∧Pv i σ H,⟨n,by simp,Nat.zero_le _,h0⟩,?_⟩
 rintro i m σ H ⟨rfl,hi,p⟩
 by_cases hlt:i<n
 ·refine .inr ⟨hlt,Pv (i+1),fun σ' H' p'=>⟨n-(i+1),by omega,rfl,hlt,p'⟩,fun x H' y=>?_⟩
  obtain ⟨e,y⟩:=y
  subst e y
  exact hs i σ _ hlt p
 ·have e:i=n:=by omega
  subst e
  exact .inl ⟨Nat.le_refl _,hd σ H p⟩
theorem while_by {c:TT} {tb:TS} {D:Ends} {σ:St} {H:Hp} (Pv:St→Hp→Prop) (μ:St→Hp→Nat) (h0:Pv σ H)
  (hs:∀σ H,Pv σ H→c σ H fun b H1=>if b=true then tb { D with nx:=fun σ' H'=>Pv σ' H'∧μ σ' H'<μ σ H,ct:=fun σ' H'=>Pv σ' H'∧μ σ' H'<μ σ H,bk:=D.nx } σ H1 else D.nx σ H1)
  (mono:∀σ H Q Q',(∀b H1,Q b H1→Q' b H1)→c σ H Q→c σ H Q'):tWhile c tb D σ H:=by
 refine ⟨fun m σ H=>m=μ σ H∧Pv σ H,⟨_,rfl,h0⟩,?_⟩
 rintro m σ H ⟨rfl,p⟩
 refine mono σ H _ _ (fun b H1 q=>?_) (hs σ H p)
 cases b with
 | true=>exact ⟨_,fun σ' H' ⟨p',l⟩=>⟨_,l,rfl,p'⟩,q⟩
 | false=>exact q
abbrev R2:=V→V→Hp→VK→Prop
def OpR (X:Cx) (f:Value→Value→Sem Value) (r:R2):Prop:=
 ∀(pins:List (Addr×Obj)) (s:Shared) (σ:St) (H:Hp) (x y:V) (v u:Value) (Q:VK),Inv X pins σ H s→RelV x v→RelV y u→r x y H Q→
  wpAny (model X.prog X.w) X.A (f v u) (EP X pins σ Q) X.xe s
def UnR (X:Cx) (f:Value→Sem Value) (r:V→Hp→VK→Prop):Prop:=
 ∀(pins:List (Addr×Obj)) (s:Shared) (σ:St) (H:Hp) (x:V) (v:Value) (Q:VK),Inv X pins σ H s→RelV x v→r x H Q→
  wpAny (model X.prog X.w) X.A (f v) (EP X pins σ Q) X.xe s
def CallR (X:Cx) (f:Value) (r:List V→Hp→VK→Prop):Prop:=
 ∀(pins:List (Addr×Obj)) (s:Shared) (σ:St) (H:Hp) (xs:List V) (us:List Value) (Q:VK),Inv X pins σ H s→Vals xs us→r xs H Q→
  wpAny (model X.prog X.w) X.A (call f us) (EP X pins σ Q) X.xe s
def tOp (r:R2) (ta tb:TE):TE:=fun σ H Q=>ta σ H fun x H1=>tb σ H1 fun y H2=>r x y H2 Q
def tUn (r:V→Hp→VK→Prop) (ta:TE):TE:=fun σ H Q=>ta σ H fun x H1=>r x H1 Q
def rI (C:Int→Int→Prop) (g:Int→Int→V):R2:=fun x y H Q=>∃i j,x=.int i∧y=.int j∧C i j∧Q (g i j) H
def rI0 (g:Int→Int→V):R2:=fun x y H Q=>∃i j,x=.int i∧y=.int j∧Q (g i j) H
def rU (g:Int→V):V→Hp→VK→Prop:=fun x H Q=>∃i,x=.int i∧Q (g i) H
section
variable {X:Cx} {a b c:Expr} {ta tb tc:TE} {pos:Pos}
theorem binT (ha:PE X a ta) (hb:PE X b tb) {pins:List (Addr×Obj)} {s:Shared} {σ:St} {H:Hp} {R:V→V→Hp→Prop} (I:Inv X pins σ H s)
  (h:ta σ H fun x H1=>tb σ H1 fun y H2=>R x y H2) {Q:Value→Shared→Prop} {f:Value→Value→Sem Value}
  (hf:∀v u s2 x y H2,Inv X pins σ H2 s2→RelV x v→RelV y u→R x y H2→wpAny (model X.prog X.w) X.A (f v u) Q X.xe s2):
  wpAny (model X.prog X.w) X.A (eval a X.env) (fun v s₁=>wpAny (model X.prog X.w) X.A (eval b X.env) (fun u s₂=>wpAny (model X.prog X.w) X.A (f v u) Q X.xe s₂) X.xe s₁) X.xe s:=by
 refine thn (ha pins s σ H _ I h) fun v s1 ⟨x,H1,I1,r1,q1⟩=>?_
 refine thn (hb pins s1 σ H1 _ I1 q1) fun u s2 ⟨y,H2,I2,r2,q2⟩=>?_
 exact hf v u s2 x y H2 I2 r1 r2 q2
theorem Zm {op:Operator} {r:R2} (ho:OpR X (binaryOp op) r) (ha:PE X a ta) (hb:PE X b tb):PE X (.BinOp a op b pos) (tOp r ta tb):=by
 intro pins s σ H Q I h
 exact wpAny_BinOp (binT ha hb I h fun v u s2 x y H2 I2 rx ry q=>ho pins s2 σ H2 x y v u Q I2 rx ry q)
theorem pe_un {op:UnaryOp} {r:V→Hp→VK→Prop} (ho:UnR X (unaryOp op) r) (ha:PE X a ta):PE X (.UnaryOp op a pos) (tUn r ta):=by
 intro pins s σ H Q I h
 exact UnaryOp_ (thn (ha pins s σ H _ I h) fun v s1 ⟨x,H1,I1,r1,q1⟩=>ho pins s1 σ H1 x v Q I1 r1 q1)
theorem opI {f:Value→Value→Sem Value} {C:Int→Int→Prop} {g:Int→Int→Int}
  (rule:∀(i j:Int) (t u:Tok) (s:Shared) (Q:Value→Shared→Prop) (E:Value→Shared→Prop),C i j→Q (.int (g i j) s.toks) { s with toks:=s.toks+1 }→wpAny (model X.prog X.w) X.A (f (.int i t) (.int j u)) Q E s):
  OpR X f (rI C fun i j=>.int (g i j)):=by
 intro pins s σ H x y v u Q I rx ry h
 obtain ⟨i,j,rfl,rfl,hc,q⟩:=h
 obtain ⟨t,rfl⟩:=rx
 obtain ⟨t',rfl⟩:=ry
 exact rule i j t t' s _ _ hc ⟨.int (g i j),H,I.tok _,⟨_,rfl⟩,q⟩
theorem opI0 {f:Value→Value→Sem Value} {g:Int→Int→Int}
  (rule:∀(i j:Int) (t u:Tok) (s:Shared) (Q:Value→Shared→Prop) (E:Value→Shared→Prop),Q (.int (g i j) s.toks) { s with toks:=s.toks+1 }→wpAny (model X.prog X.w) X.A (f (.int i t) (.int j u)) Q E s):
  OpR X f (rI0 fun i j=>.int (g i j)):=by
 intro pins s σ H x y v u Q I rx ry h
 obtain ⟨i,j,rfl,rfl,q⟩:=h
 obtain ⟨t,rfl⟩:=rx
 obtain ⟨t',rfl⟩:=ry
 exact rule i j t t' s _ _ ⟨.int (g i j),H,I.tok _,⟨_,rfl⟩,q⟩
theorem opB0 {f:Value→Value→Sem Value} {g:Int→Int→Bool}
  (rule:∀(i j:Int) (t u:Tok) (s:Shared) (Q:Value→Shared→Prop) (E:Value→Shared→Prop),Q (.bool (g i j)) s→wpAny (model X.prog X.w) X.A (f (.int i t) (.int j u)) Q E s):
  OpR X f (rI0 fun i j=>.bl (g i j)):=by
 intro pins s σ H x y v u Q I rx ry h
 obtain ⟨i,j,rfl,rfl,q⟩:=h
 obtain ⟨t,rfl⟩:=rx
 obtain ⟨t',rfl⟩:=ry
 exact rule i j t t' s _ _ ⟨.bl (g i j),H,I,rfl,q⟩
def CDiv (i j:Int):Prop:=0<j∧j<1073741824
def CPow (i j:Int):Prop:=0≤j∧j≤1000000∧i.natAbs<2^64
def CMul (i j:Int):Prop:=(-(2^64)<i∧i<2^64)∨(-(2^64)<j∧j<2^64)
theorem CMul.ok {i j:Int} (h:CMul i j):IntMulOk i j:=by
 rcases h with ⟨h1,h2⟩|⟨h1,h2⟩
 ·exact .of_left (intBits_le_64 h1 h2)
 ·exact .of_right (intBits_le_64 h1 h2)
theorem two_pow_nn (k:Nat):(0:Int)≤2^k:=by
 rw[two_pow_cast]
 exact Int.natCast_nonneg _
theorem Z5:OpR X (binaryOp .Add) (rI0 fun i j=>.int (i+j)):=opI0 fun _ _ _ _ _ _ _ q=>add_int q
theorem Jp:OpR X (binaryOp .Sub) (rI0 fun i j=>.int (i-j)):=opI0 fun _ _ _ _ _ _ _ q=>sub_int q
theorem op_mul:OpR X (binaryOp .Mult) (rI CMul fun i j=>.int (i*j)):=opI fun _ _ _ _ _ _ _ hc q=>mul_int q hc.ok
theorem op_fdiv:OpR X (binaryOp .FloorDiv) (rI CDiv fun i j=>.int (i/j)):=opI fun i j _ _ _ _ _ hc q=>by
 have h1:(0:Int)<j:=hc.1
 have h2:j<1073741824:=hc.2
 exact floordiv_int (by omega) (by rw[Int.fdiv_eq_ediv_of_nonneg i (by omega)];exact q) (.inl (PyProof.noPylong_small (by omega)))
theorem op_mod:OpR X (binaryOp .Mod) (rI (fun _ j=>0<j) fun i j=>.int (i%j)):=opI fun i j _ _ _ _ _ hc q=>by
 have h1:(0:Int)<j:=hc
 exact mod_int' (by omega) (by rw[Int.fmod_eq_emod_of_nonneg i (by omega)];exact q)
theorem op_shl:OpR X (binaryOp .LShift) (rI CPow fun i j=>.int (i*2^j.toNat)):=opI fun _ _ _ _ _ _ _ hc q=>lshift_int_small hc.1 hc.2.1 hc.2.2 q
theorem op_shr:OpR X (binaryOp .RShift) (rI (fun _ j=>0≤j) fun i j=>.int (i/2^j.toNat)):=opI fun i j _ _ _ _ _ hc q=>
 rshift_int hc (by rw[Int.fdiv_eq_ediv_of_nonneg i (two_pow_nn _)];exact q)
theorem op_and:OpR X (binaryOp .BitAnd) (rI0 fun i j=>.int (Builtin.bitAnd i j)):=opI0 fun _ _ _ _ _ _ _ q=>and_int q
theorem op_or:OpR X (binaryOp .BitOr) (rI0 fun i j=>.int (Builtin.bitOr i j)):=opI0 fun _ _ _ _ _ _ _ q=>or_int q
theorem Yc:OpR X (binaryOp .BitXor) (rI0 fun i j=>.int (Builtin.bitXor i j)):=opI0 fun _ _ _ _ _ _ _ q=>xor_int q
theorem unI {f:Value→Sem Value} {g:Int→Int}
  (rule:∀(i:Int) (t:Tok) (s:Shared) (Q:Value→Shared→Prop) (E:Value→Shared→Prop),Q (.int (g i) s.toks) { s with toks:=s.toks+1 }→wpAny (model X.prog X.w) X.A (f (.int i t)) Q E s):
  UnR X f (rU fun i=>.int (g i)):=by
 intro pins s σ H x v Q I rx h
 obtain ⟨i,rfl,q⟩:=h
 obtain ⟨t,rfl⟩:=rx
 exact rule i t s _ _ ⟨.int (g i),H,I.tok _,⟨_,rfl⟩,q⟩
theorem un_neg:UnR X (unaryOp .USub) (rU fun i=>.int (-i)):=unI fun _ _ _ _ _ q=>neg_int q
end
def scal:V→V→Bool
 | .non,.non=>true|.non,.int _=>true|.int _,.non=>true|.non,.bl _=>true|.bl _,.non=>true|.non,.str _=>true|.str _,.non=>true
 | .int _,.int _=>true|.bl _,.bl _=>true|.str _,.str _=>true|.byt _,.byt _=>true
 | .int _,.str _=>true|.str _,.int _=>true|.bl _,.str _=>true|.str _,.bl _=>true
 | _,_=>false
def rEq:R2:=fun x y H Q=>scal x y=true∧Q (.bl (decide (x=y))) H
def rNe:R2:=fun x y H Q=>scal x y=true∧Q (.bl (!decide (x=y))) H
theorem dec_int {i j:Int}:decide (V.int i=V.int j)=(i==j):=by
 rw[Bool.eq_iff_iff]
 simp
theorem dec_bl {i j:Bool}:decide (V.bl i=V.bl j)=(i==j):=by
 rw[Bool.eq_iff_iff]
 simp
theorem dec_str {i j:Str}:decide (V.str i=V.str j)=(i==j):=by
 rw[Bool.eq_iff_iff]
 simp
theorem dec_byt {i j:Array UInt8}:decide (V.byt i=V.byt j)=(i.toList==j.toList):=by
 rw[Bool.eq_iff_iff]
 cases i
 cases j
 simp
section
variable {X:Cx} {a b c:Expr} {ta tb tc:TE} {pos:Pos}
theorem Yd {pins:List (Addr×Obj)} {σ:St} {H:Hp} {s:Shared} {Q:VK} {k k':Bool} (I:Inv X pins σ H s) (q:Q (.bl k) H) (e:k=k'):EP X pins σ Q (.bool k') s:=by
 subst e
 exact ⟨.bl k,H,I,rfl,q⟩
theorem Jq:OpR X (compareOp .Eq) rEq:=by
 intro pins s σ H x y v u Q I rx ry h
 obtain ⟨hs,q⟩:=h
 cases x with
 | non=>
  cases rx
  cases y with
  | non=>cases ry;exact PySem.EqNone.eq_none_none (Yd I q (by simp))
  | bl j=>cases ry;exact PySem.EqNone.eq_none_bool (Yd I q (by simp))
  | int j=>obtain ⟨t',rfl⟩:=ry;exact PySem.EqNone.eq_none_int (Yd I q (by simp))
  | str j=>obtain ⟨t',rfl⟩:=ry;exact PySem.EqNone.eq_none_str (Yd I q (by simp))
  | _=>exact absurd (show false=true from hs) Bool.false_ne_true
 | bl i=>
  cases rx
  cases y with
  | non=>cases ry;exact PySem.EqNone.eq_bool_none (Yd I q (by simp))
  | bl j=>cases ry;exact eq_bool (Yd I q dec_bl)
  | str j=>obtain ⟨t',rfl⟩:=ry;exact PySem.EqMixed.eq_bool_str (Yd I q (by simp))
  | _=>exact absurd (show false=true from hs) Bool.false_ne_true
 | int i=>
  obtain ⟨t,rfl⟩:=rx
  cases y with
  | non=>cases ry;exact PySem.EqNone.eq_int_none (Yd I q (by simp))
  | int j=>obtain ⟨t',rfl⟩:=ry;exact eq_int (Yd I q dec_int)
  | str j=>obtain ⟨t',rfl⟩:=ry;exact PySem.EqMixed.eq_int_str (Yd I q (by simp))
  | _=>exact absurd (show false=true from hs) Bool.false_ne_true
 | str i=>
  obtain ⟨t,rfl⟩:=rx
  cases y with
  | non=>cases ry;exact PySem.EqNone.eq_str_none (Yd I q (by simp))
  | bl j=>cases ry;exact PySem.EqMixed.eq_str_bool (Yd I q (by simp))
  | int j=>obtain ⟨t',rfl⟩:=ry;exact PySem.EqMixed.eq_str_int (Yd I q (by simp))
  | str j=>obtain ⟨t',rfl⟩:=ry;exact eq_str (Yd I q dec_str)
  | _=>exact absurd (show false=true from hs) Bool.false_ne_true
 | byt i=>
  obtain ⟨t,rfl⟩:=rx
  cases y with
  | byt j=>obtain ⟨t',rfl⟩:=ry;exact PySem.W.eq_bytes (Yd I q dec_byt)
  | _=>exact absurd (show false=true from hs) Bool.false_ne_true
 | _=>cases y<;>exact absurd (show false=true from hs) Bool.false_ne_true
theorem op_ne:OpR X (compareOp .NotEq) rNe:=by
 intro pins s σ H x y v u Q I rx ry h
 obtain ⟨hs,q⟩:=h
 cases x with
 | non=>
  cases rx
  cases y with
  | non=>cases ry;exact PySem.EqNone.ne_none_none (Yd I q (by simp))
  | bl j=>cases ry;exact PySem.EqNone.ne_none_bool (Yd I q (by simp))
  | int j=>obtain ⟨t',rfl⟩:=ry;exact PySem.EqNone.ne_none_int (Yd I q (by simp))
  | str j=>obtain ⟨t',rfl⟩:=ry;exact PySem.EqNone.ne_none_str (Yd I q (by simp))
  | _=>exact absurd (show false=true from hs) Bool.false_ne_true
 | bl i=>
  cases rx
  cases y with
  | non=>cases ry;exact PySem.EqNone.ne_bool_none (Yd I q (by simp))
  | bl j=>cases ry;exact ne_bool (Yd I q (congrArg not dec_bl))
  | str j=>obtain ⟨t',rfl⟩:=ry;exact PySem.EqMixed.ne_bool_str (Yd I q (by simp))
  | _=>exact absurd (show false=true from hs) Bool.false_ne_true
 | int i=>
  obtain ⟨t,rfl⟩:=rx
  cases y with
  | non=>cases ry;exact PySem.EqNone.ne_int_none (Yd I q (by simp))
  | int j=>obtain ⟨t',rfl⟩:=ry;exact ne_int (Yd I q (congrArg not dec_int))
  | str j=>obtain ⟨t',rfl⟩:=ry;exact PySem.EqMixed.ne_int_str (Yd I q (by simp))
  | _=>exact absurd (show false=true from hs) Bool.false_ne_true
 | str i=>
  obtain ⟨t,rfl⟩:=rx
  cases y with
  | non=>cases ry;exact PySem.EqNone.ne_str_none (Yd I q (by simp))
  | bl j=>cases ry;exact PySem.EqMixed.ne_str_bool (Yd I q (by simp))
  | int j=>obtain ⟨t',rfl⟩:=ry;exact PySem.EqMixed.ne_str_int (Yd I q (by simp))
  | str j=>obtain ⟨t',rfl⟩:=ry;exact ne_str (Yd I q (congrArg not dec_str))
  | _=>exact absurd (show false=true from hs) Bool.false_ne_true
 | byt i=>
  obtain ⟨t,rfl⟩:=rx
  cases y with
  | byt j=>obtain ⟨t',rfl⟩:=ry;exact PySem.W.ne_bytes (Yd I q (congrArg not dec_byt))
  | _=>exact absurd (show false=true from hs) Bool.false_ne_true
 | _=>cases y<;>exact absurd (show false=true from hs) Bool.false_ne_true
theorem op_lt:OpR X (compareOp .Lt) (rI0 fun i j=>.bl (decide (i<j))):=opB0 fun _ _ _ _ _ _ _ q=>lt_int q
theorem Xm:OpR X (compareOp .LtE) (rI0 fun i j=>.bl (decide (i≤j))):=opB0 fun _ _ _ _ _ _ _ q=>le_int q
theorem op_gt:OpR X (compareOp .Gt) (rI0 fun i j=>.bl (decide (j<i))):=opB0 fun _ _ _ _ _ _ _ q=>gt_int q
theorem op_ge:OpR X (compareOp .GtE) (rI0 fun i j=>.bl (decide (j≤i))):=opB0 fun _ _ _ _ _ _ _ q=>ge_int q
theorem op_isN:OpR X (compareOp .Is) (fun x y H Q=>y=.non∧Q (.bl (decide (x=.non))) H):=by
 intro pins s σ H x y v u Q I rx ry h
 obtain ⟨rfl,q⟩:=h
 cases ry
 refine is_none_gen (Yd I q ?_)
 cases x<;>first
  | (cases rx;rfl)
  | (obtain ⟨t,rfl⟩:=rx;rfl)
theorem op_notN:OpR X (compareOp .IsNot) (fun x y H Q=>y=.non∧Q (.bl (!decide (x=.non))) H):=by
 intro pins s σ H x y v u Q I rx ry h
 obtain ⟨rfl,q⟩:=h
 cases ry
 refine isnot_none_gen (Yd I q ?_)
 cases x<;>first
  | (cases rx;rfl)
  | (obtain ⟨t,rfl⟩:=rx;rfl)
theorem Qv (b:Expr) {op:CmpOp} (h:op≠.In:=by decide) (h2:op≠.NotIn:=by decide):behindInMarks op b=false:=by
 have e1:(op==CmpOp.In)=false:=by cases op<;>first|rfl|exact absurd rfl h
 have e2:(op==CmpOp.NotIn)=false:=by cases op<;>first|rfl|exact absurd rfl h2
 cases b<;>simp[behindInMarks,e1,e2]
theorem pe_cmpR {op:CmpOp} {r:R2} (ho:OpR X (compareOp op) r) (ha:PE X a ta) (hb:PE X b tb) (hm:behindInMarks op b=false):PE X (.Compare a [op] [b] pos) (tOp r ta tb):=by
 intro pins s σ H Q I h
 exact wpAny_Compare1 (binT ha hb I h fun v u s2 x y H2 I2 rx ry q=>ho pins s2 σ H2 x y v u Q I2 rx ry q) hm
def tTest (t:TE):TT:=fun σ H Q=>t σ H fun x H'=>∃k,x=.bl k∧Q k H'
theorem Zu {op:CmpOp} {r:R2} (ho:OpR X (compareOp op) r) (ha:PE X a ta) (hb:PE X b tb) (hm:behindInMarks op b=false):PT X (.Compare a [op] [b] pos) (tTest (tOp r ta tb)):=by
 intro pins s σ H Q I h
 refine wpAny_isTrue_Compare1 (thn (ha pins s σ H _ I h) fun v s1 ⟨x,H1,I1,r1,q1⟩=>thn (hb pins s1 σ H1 _ I1 q1) fun u s2 ⟨y,H2,I2,r2,q2⟩=>
  thn (ho pins s2 σ H2 x y v u _ I2 r1 r2 q2) fun c s3 ⟨z,H3,I3,r3,k,e,q3⟩=>?_) hm
 subst e
 cases r3
 exact wpAny_truthy_bool ⟨H3,I3,q3⟩
def tChain (r r':R2) (ta tb tc:TE):TE:=fun σ H Q=>ta σ H fun x H1=>tb σ H1 fun y H2=>r x y H2 fun z H3=>∃k,z=.bl k ∧
 (if k=true then tc σ H3 fun w' H4=>r' y w' H4 Q else Q (.bl false) H3)
theorem pe_chain {op op':CmpOp} {r r':R2} (ho:OpR X (compareOp op) r) (ho':OpR X (compareOp op') r') (ha:PE X a ta) (hb:PE X b tb) (hc:PE X c tc)
  (hm:lastMarks [op,op'] [b,c]=false:=by with_unfolding_all rfl):PE X (.Compare a [op,op'] [b,c] pos) (tChain r r' ta tb tc):=by
 intro pins s σ H Q I h
 refine Compare_chain (thn (ha pins s σ H _ I h) fun v s1 ⟨x,H1,I1,r1,q1⟩=>chain_link (thn (hb pins s1 σ H1 _ I1 q1) fun u s2 ⟨y,H2,I2,r2,q2⟩=>
  thn (ho pins s2 σ H2 x y v u _ I2 r1 r2 q2) fun d s3 ⟨z,H3,I3,r3,k,e,q3⟩=>?_)) hm
 subst e
 cases r3
 refine wpAny_truthy_bool ?_
 cases k with
 | false=>exact ite_ff ⟨.bl false,H3,I3,rfl,q3⟩
 | true=>exact ite_tt (chain_last (thn (hc pins s3 σ H3 _ I3 q3) fun w' s4 ⟨z',H4,I4,r4,q4⟩=>ho' pins s4 σ H4 y z' u w' Q I4 r2 r4 q4))
theorem X9 {op op':CmpOp} {r r':R2} (ho:OpR X (compareOp op) r) (ho':OpR X (compareOp op') r') (ha:PE X a ta) (hb:PE X b tb) (hc:PE X c tc)
  (hm:lastMarks [op,op'] [b,c]=false:=by with_unfolding_all rfl):PT X (.Compare a [op,op'] [b,c] pos) (tTest (tChain r r' ta tb tc)):=by
 intro pins s σ H Q I h
 refine isTrue_chain (thn (ha pins s σ H _ I h) fun v s1 ⟨x,H1,I1,r1,q1⟩=>test_link (thn (hb pins s1 σ H1 _ I1 q1) fun u s2 ⟨y,H2,I2,r2,q2⟩=>
  thn (ho pins s2 σ H2 x y v u _ I2 r1 r2 q2) fun d s3 ⟨z,H3,I3,r3,k,e,q3⟩=>?_)) hm
 subst e
 cases r3
 refine wpAny_truthy_bool ?_
 cases k with
 | false=>
  obtain ⟨k',e',q'⟩:=q3
  cases e'
  exact ite_ff ⟨H3,I3,q'⟩
 | true=>
  refine ite_tt (test_last (thn (hc pins s3 σ H3 _ I3 q3) fun w' s4 ⟨z',H4,I4,r4,q4⟩=>thn (ho' pins s4 σ H4 y z' u w' _ I4 r2 r4 q4) fun d' s5 ⟨z2,H5,I5,r5,k2,e2,q5⟩=>?_))
  subst e2
  cases r5
  exact wpAny_truthy_bool ⟨H5,I5,q5⟩
theorem line63:(sizeLine:Nat)<2^63:=by rw[sizeLine_eq];decide
theorem vals1 {x:V} {us:List Value} (r:Vals [x] us):∃u,us=[u]∧RelV x u:=by
 cases r with
 | cons r1 r2=>cases r2;exact ⟨_,rfl,r1⟩
end
structure ObjM (h:Heap) (x dx C:Addr) (mA:Str→Option Value):Prop where
 obj:h.get? x=some (PySem.W.instObj C dx)
 ns:h.Ns1 dx mA
 ne:dx≠x
theorem lookIn_ns {h:Heap} {dx:Addr} {mA:Str→Option Value} (n:h.Ns1 dx mA):∃od,h.get? dx=some od∧∀name,PySem.W.lookIn name od=some (mA name):=by
 obtain ⟨o,es,ep,ho,hd,hk,_,hm⟩:=n
 refine ⟨o,ho,fun name=>?_⟩
 have e:=hm name
 unfold nsFind findBy at e
 rw[← Array.find?_toList] at e
 unfold PySem.W.lookIn
 rw[hd]
 dsimp only
 split
 ·rename_i y q
  rw[q] at e
  exact congrArg some e
 ·rename_i q
  rw[q] at e
  have a:es.toList.any (·.refKey)=false:=by
   rw[List.any_eq_false]
   intro y hy
   obtain ⟨z,t,hkey⟩:=hk y (Array.mem_toList_iff.mp hy)
   simp[DictEntry.refKey,hkey]
  have a':¬ es.toList.any (·.refKey)=true:=by rw[a];exact Bool.false_ne_true
  rw[if_neg a']
  exact congrArg some e
theorem ObjM.look {h:Heap} {x dx C:Addr} {mA:Str→Option Value} (I:ObjM h x dx C mA):∃od,PySem.W.InstAt h x (PySem.W.instObj C dx) C (some od)∧∀name,PySem.W.lookIn name od=some (mA name):=
 let ⟨od,ho,hl⟩:=lookIn_ns I.ns
 ⟨od,⟨I.obj,rfl,rfl,ho⟩,hl⟩
section
variable {prog:Program} {w:World} {A:Around} {E:Value→Shared→Prop} {s:Shared} {K:PySem.W.Frag} {x dx C f:Addr} {mA:Str→Option Value} {name:Str} {v:Value}
theorem get_map {expr:Bool} {Q:Value→Shared→Prop} (X:K.In s.heap) (I:ObjM s.heap x dx C mA) (hg:PySem.W.plainGet K C name=true) (hh:PySem.W.hasDictIn K C=true)
  (ha:PySem.W.findIn K (.ref C) name=some none) (hv:mA name=some v) (hv':PySem.W.handedIn v=true) (h:Q v { s with toks:=s.toks+1 }):
  wpAny (model prog w) A (getAttr (.ref x) name expr) Q E s:=by
 obtain ⟨od,J,hl⟩:=I.look
 exact PySem.W.get_value X J (PySem.W.plainGet_of hg).1 (PySem.W.findObj_own hh ha rfl (by rw[hl,hv])) hv' h
theorem get_meth {pl:Sem Bool} {Q:Value×List Value→Shared→Prop} (X:K.In s.heap) (I:ObjM s.heap x dx C mA) (hg:PySem.W.plainGet K C name=true)
  (hf:PySem.W.findIn K (.ref C) name=some (some (.ref f))) (ht:PySem.W.isFn K (.ref f)=true) (hv:mA name=none) (h:Q (.ref f,[.ref x]) s):
  wpAny (model prog w) A (getMethod (.ref x) name pl) Q E s:=by
 obtain ⟨od,J,hl⟩:=I.look
 exact PySem.W.method_fn X J (PySem.W.plainGet_of hg).1 (PySem.W.plainGet_of hg).2 hf (beq_iff_eq.mp ht) (by show (PySem.W.lookIn name od).map (·.isSome)=some false;rw[hl,hv];rfl) h
theorem set_map {ns:List Str} {Q:Unit→Shared→Prop} (X:K.In s.heap) (I:ObjM s.heap x dx C mA)
  (hs:PySem.W.findIn K (.ref C) "__setattr__"=some (some (.builtin "object.__setattr__"))) (hp:PySem.W.plainOver K C=true) (ht:PySem.W.takerIn K C name=some none) (hh:PySem.W.hasDictIn K C=true)
  (hw:PySem.Within mA ns) (hsz:ns.length≤sizeLine)
  (h:∀h',ObjM h' x dx C (fun y=>if y=name then some v else mA y)→Heap.SameBut dx s.heap h'→Q () { s with heap:=h',toks:=s.toks+2 }):
  wpAny (model prog w) A (setAttr (.ref x) name v) Q E s:=by
 obtain ⟨od,J,hl⟩:=I.look
 refine PySem.W.set_plain X J hs (PySem.W.osa_open (s:={ s with toks:=s.toks+1 }) (r:=none) X J hp ht fun b=>?_)
 obtain ⟨cd,hc,hd'⟩:=PySem.W.any_some hh
 have hx:s.heap.get? x=some ⟨.ref C,some dx,.plain,#[]⟩:=I.obj
 refine wpAny_bind (wpAny_pure (wpAny_bind (wpAny_bind (wpAny_loadPart hx (wpAny_bind (PySem.W.Looks.here (s:={ s with toks:=s.toks+1 }) (PySem.W.looks_clsIn X hc) ?_))))))
 rw[hd']
 refine wpAny_pure (a:=some dx) (wpAny_bind (wpAny_pure (wpAny_bind ?_)))
 refine wpAny_nsSet1 (s:={ s with toks:=s.toks+1 }) I.ns fun h' hn2 hs2=>?_
 obtain ⟨oD,esD,epD,hoD,hdD,hcD⟩:=hn2.count (PySem.Within.cons name v hw)
 refine wpAny_bind (wpAny_lookBehind hoD (by rw[hdD];exact pastItsLine_dict (Nat.le_trans hcD (by rw[List.length_cons];omega))) ?_)
 exact wpAny_pure (h _ ⟨(hs2.2 _ (Ne.symm I.ne)).trans I.obj,hn2,I.ne⟩ hs2)
theorem make_map {R:Result→Shared→Prop} {vs:List Value} {kw:List (Str×Value)} (X:K.In s.heap) (hm:PySem.W.makesIn K C=true)
  (hi:PySem.W.findIn K (.ref C) "__init__"=some (some (.ref f))) (hf:PySem.W.typeIn K (.ref f)=some (.type "function"))
  (h:codeAny (model prog w) (A.under (.builtin "type.__call__" ⟨.ref C::vs,kw⟩)) (.call (.ref f) ⟨.ref (s.heap.objs.size+1)::vs,kw⟩) (PySem.W.InitBack (s.heap.objs.size+1) R)
   { s with heap:=(s.heap.push PySem.W.emptyDict).push (PySem.W.instObj C s.heap.objs.size) }):
  codeAny (model prog w) A (.call (.ref C) ⟨vs,kw⟩) R s:=by
 obtain ⟨hh,g,d,t,os⟩:=s
 exact PySem.W.make_core (PySem.W.makes_of X hm) (PySem.W.looks_findIn X hi) (fun self=>PySem.W.bind_fn X self hf) (.inl rfl) h
end
def putF (f:Str) (v:V):List (Str×V)→List (Str×V)
 | []=>[(f,v)]
 | (g,x)::r=>if g=f then (g,v)::r else (g,x)::putF f v r
theorem lookup_putF (f g:Str) (v:V):∀fs:List (Str×V),(putF f v fs).lookup g=if g=f then some v else fs.lookup g
 | []=>by
  show List.lookup g [(f,v)]=_
  by_cases h:g=f
  ·have hb:(g==f)=true:=beq_iff_eq.mpr h
   simp only[List.lookup,hb,if_pos h]
  ·have hb:(g==f)=false:=beq_eq_false_iff_ne.mpr h
   simp only[List.lookup,hb,if_neg h]
 | (k,x)::r=>by
  have ih:=lookup_putF f g v r
  rw[show putF f v ((k,x)::r)=(if k=f then (k,v)::r else (k,x)::putF f v r) from rfl]
  by_cases hk:k=f
  ·rw[if_pos hk]
   by_cases h:g=k
   ·have hb:(g==k)=true:=beq_iff_eq.mpr h
    simp only[List.lookup,hb,if_pos (h.trans hk)]
   ·have hb:(g==k)=false:=beq_eq_false_iff_ne.mpr h
    simp only[List.lookup,hb,if_neg (fun e:g=f=>h (e.trans hk.symm))]
  ·rw[if_neg hk]
   by_cases h:g=k
   ·have hb:(g==k)=true:=beq_iff_eq.mpr h
    simp only[List.lookup,hb,if_neg (fun e:g=f=>hk (h.symm.trans e))]
   ·have hb:(g==k)=false:=beq_eq_false_iff_ne.mpr h
    simp only[List.lookup,hb]
    exact ih
theorem keys_putF (f:Str) (v:V):∀fs:List (Str×V),f∈(putF f v fs).map (·.1)∧∀g,g∈fs.map (·.1)→g∈(putF f v fs).map (·.1)
 | []=>⟨by simp[putF],fun g h=>by simp at h⟩
 | (k,x)::r=>by
  obtain ⟨i1,i2⟩:=keys_putF f v r
  rw[show putF f v ((k,x)::r)=(if k=f then (k,v)::r else (k,x)::putF f v r) from rfl]
  by_cases hk:k=f
  ·rw[if_pos hk]
   subst hk
   exact ⟨by simp,fun g h=>by simpa using h⟩
  ·rw[if_neg hk]
   refine ⟨?_,fun g h=>?_⟩
   ·rw[List.map_cons]
    exact List.mem_cons_of_mem _ i1
   ·rw[List.map_cons] at h ⊢
    rcases List.mem_cons.mp h with e|e
    ·exact List.mem_cons.mpr (.inl e)
    ·exact List.mem_cons_of_mem _ (i2 g e)
theorem length_putF (f:Str) (v:V):∀fs:List (Str×V),(putF f v fs).length≤fs.length+1
 | []=>by simp[putF]
 | (k,x)::r=>by
  have ih:=length_putF f v r
  rw[show putF f v ((k,x)::r)=(if k=f then (k,v)::r else (k,x)::putF f v r) from rfl]
  by_cases hk:k=f
  ·rw[if_pos hk,List.length_cons,List.length_cons];omega
  ·rw[if_neg hk,List.length_cons,List.length_cons];omega
theorem RelO.some_of {v:V} {o:Option Value} (r:RelO (some v) o):∃u,o=some u∧RelV v u:=by
 cases o with
 | none=>exact (show False from r).elim
 | some u=>exact ⟨u,rfl,r⟩
theorem RelO.none_of {o:Option Value} (r:RelO none o):o=none:=by
 cases o with
 | none=>rfl
 | some u=>exact (show False from r).elim
theorem handed_of {v:V} {u:Value} (r:RelV v u):PySem.W.handedIn u=true:=by
 cases v with
 | non=>cases (show u=Value.none from r);rfl
 | bl b=>cases (show u=Value.bool b from r);rfl
 | int i=>obtain ⟨t,e⟩:=(show ∃t,u=Value.int i t from r);cases e;rfl
 | str x=>obtain ⟨t,e⟩:=(show ∃t,u=Value.str x t from r);cases e;rfl
 | byt b=>obtain ⟨t,e⟩:=(show ∃t,u=Value.bytes b t from r);cases e;rfl
 | flt b=>obtain ⟨t,e⟩:=(show ∃t,u=Value.float b t from r);cases e;rfl
 | ref a=>cases (show u=Value.ref a from r);rfl
 | ty n=>cases (show u=Value.type n from r);rfl
section
variable {P:Program} {w:World} {H H':Hp} {h h':Heap} {a C dx:Addr} {fs fs':List (Str×V)}
theorem ins_get (hok:HOk P w H h) (e:H a=some (.ins C dx fs)):∃mA,ObjM h a dx C mA∧(∀f,RelO (fs.lookup f) (mA f))∧PySem.Within mA (fs.map (·.1))∧fs.length≤1000∧H dx=some (.own a):=by
 obtain ⟨d,z,ne,ob,mA,n,r,q⟩:=(show ObjOk P w H h a (.ins C dx fs) from hok a _ e)
 exact ⟨mA,⟨ob,n,ne⟩,r,q,z,d⟩
end
structure Cls (K:PySem.W.Frag) (C:Addr):Prop where
 pg:PySem.W.plainGet K C Str.empty=true
 hd:PySem.W.hasDictIn K C=true
 po:PySem.W.plainOver K C=true
 sa:PySem.W.findIn K (.ref C) "__setattr__"=some (some (.builtin "object.__setattr__"))
theorem Cls.get {K:PySem.W.Frag} {C:Addr} (c:Cls K C) (f:Str):PySem.W.plainGet K C f=true:=c.pg
def NoAttr (K:PySem.W.Frag) (C:Addr) (f:Str):Prop:=PySem.W.findIn K (.ref C) f=some none
theorem NoAttr.taker {K:PySem.W.Frag} {C:Addr} {f:Str} (n:NoAttr K C f):PySem.W.takerIn K C f=some none:=by
 unfold PySem.W.takerIn
 rw[show PySem.W.findIn K (.ref C) f=some none from n]
 rfl
structure Meth (K:PySem.W.Frag) (C:Addr) (m:Str) (f:Addr):Prop where
 at_:PySem.W.findIn K (.ref C) m=some (some (.ref f))
 fn:PySem.W.isFn K (.ref f)=true
 kp:PySem.W.keepIn K (.ref f)=true
section
variable {X:Cx} {pins:List (Addr×Obj)} {σ:St} {H:Hp} {s:Shared} {a C dx:Addr} {fs:List (Str×V)} {f:Str} {v:V} {A:Around} {E:Value→Shared→Prop}
theorem getattr_ok {b:Bool} {Q:Value→Shared→Prop} (I:Inv X pins σ H s) (e:H a=some (.ins C dx fs)) (c:Cls X.K C) (n:NoAttr X.K C f) (l:fs.lookup f=some v)
  (h:∀u s',Inv X pins σ H s'→RelV v u→Q u s'):wpAny (model X.prog X.w) A (getAttr (.ref a) f b) Q E s:=by
 obtain ⟨mA,O,r,_,_,_⟩:=ins_get I.hok e
 obtain ⟨u,hu,ru⟩:=RelO.some_of (v:=v) (o:=mA f) (by rw[← l];exact r f)
 exact get_map I.kIn O (c.get f) c.hd n hu (handed_of ru) (h u _ (I.tok _) ru)
theorem getmeth_ok {m:Str} {g:Addr} {pl:Sem Bool} {Q:Value×List Value→Shared→Prop} (I:Inv X pins σ H s) (e:H a=some (.ins C dx fs)) (c:Cls X.K C) (k:Meth X.K C m g) (l:fs.lookup m=none)
  (h:Q (.ref g,[.ref a]) s):wpAny (model X.prog X.w) A (getMethod (.ref a) m pl) Q E s:=by
 obtain ⟨mA,O,r,_,_,_⟩:=ins_get I.hok e
 have hn:mA m=none:=RelO.none_of (by rw[← l];exact r m)
 exact get_meth I.kIn O (c.get m) k.at_ k.fn hn h
theorem setattr_ok {y:V} {u:Value} {Q:Unit→Shared→Prop} (I:Inv X pins σ H s) (e:H a=some (.ins C dx fs)) (c:Cls X.K C) (n:NoAttr X.K C f) (hl:fs.length<1000) (ry:RelV y u)
  (h:∀s',Inv X pins σ (upd H a (.ins C dx (putF f y fs))) s'→Q () s'):wpAny (model X.prog X.w) A (setAttr (.ref a) f u) Q E s:=by
 obtain ⟨mA,O,r,wi,_,ho⟩:=ins_get I.hok e
 have hz:(fs.map (·.1)).length≤sizeLine:=by rw[List.length_map,sizeLine_eq];omega
 refine set_map I.kIn O c.sa c.po n.taker c.hd wi hz fun h' O' sb=>h _ ?_
 have hd:∃o,h'.get? dx=some o:=let ⟨o,_,_,e',_⟩:=O'.ns;⟨o,e'⟩
 refine I.write (x:=a) (e:=dx) (by rw[e];exact True.intro) (.inr ho) (fun b q hb z=>(sb.2 b hb).trans z) hd ?_
 refine ⟨by rw[Zn O.ne];exact ho,?_,O.ne,O'.obj,_,O'.ns,fun g=>?_,fun g hg=>?_⟩
 ·have:=length_putF f y fs;omega
 ·show RelO ((putF f y fs).lookup g) (if g=f then some u else mA g)
  rw[lookup_putF]
  by_cases q:g=f
  ·rw[if_pos q,if_pos q];exact ry
  ·rw[if_neg q,if_neg q];exact r g
 ·by_cases q:g=f
  ·rw[q];exact (keys_putF f y fs).1
  ·refine (keys_putF f y fs).2 g (wi g fun z=>hg ?_)
   show (if g=f then some u else mA g)=none
   rw[if_neg q];exact z
theorem Inv.made (I:Inv X pins σ H s):Inv X pins σ (upd (upd H s.heap.objs.size (.own (s.heap.objs.size+1))) (s.heap.objs.size+1) (.ins C s.heap.objs.size []))
  { s with heap:=(s.heap.push PySem.W.emptyDict).push (PySem.W.instObj C s.heap.objs.size) }:=by
 have e1:(s.heap.push PySem.W.emptyDict).get? s.heap.objs.size=some PySem.W.emptyDict:=Heap.get?_push_size s.heap rfl
 have e2:((s.heap.push PySem.W.emptyDict).push (PySem.W.instObj C s.heap.objs.size)).get? (s.heap.objs.size+1)=some (PySem.W.instObj C s.heap.objs.size):=by
  have:=Heap.get?_push_size (s.heap.push PySem.W.emptyDict) (o:=PySem.W.instObj C s.heap.objs.size) rfl
  rwa [Heap.size_push] at this
 have e3:(s.heap.push PySem.W.emptyDict).Ns s.heap.objs.size (fun _=>none):=⟨PySem.W.emptyDict,#[],_,e1,rfl,(fun e he=>absurd he (by simp)),fun _=>rfl⟩
 have I1:=I.laid (a:=s.heap.objs.size) (o:=.own (s.heap.objs.size+1)) (h':=s.heap.push PySem.W.emptyDict) (t':=s.toks) (fun b u q=>Heap.get?_push_of_some _ q) (Nat.le_refl _) ⟨_,e1⟩
 refine I1.laid (a:=s.heap.objs.size+1) (o:=.ins C s.heap.objs.size []) (t':=s.toks) (fun b u q=>Heap.get?_push_of_some _ q) (Nat.le_of_eq (Heap.size_push _ _)) ?_
 have ne:s.heap.objs.size≠s.heap.objs.size+1:=Nat.ne_of_lt (Nat.lt_succ_self _)
 refine ⟨by rw[Zn ne,Zc],Nat.zero_le _,ne,e2,fun _=>none,(Heap.Ns1.of_empty e3).at fun o q=>Heap.get?_push_of_some _ q,fun _=>True.intro,fun y hy=>absurd rfl hy⟩
theorem attr_of {prog:Program} {w:World} {env:Env} {e:Expr} {f:Str} {pos:Pos} {s:Shared} {Q:Value→Shared→Prop} (hb:attributeBase e f env (eval e env)=eval e env)
  (h:wpAny (model prog w) A (eval e env) (fun o s₁=>wpAny (model prog w) A (getAttr o f true) Q E s₁) E s):wpAny (model prog w) A (eval (.Attribute e f pos) env) Q E s:=
 Attribute_any_ h (by rw[arm_eval_Attribute,hb])
end
def tFld (K:PySem.W.Frag) (ta:TE) (f:Str):TE:=fun σ H Q=>ta σ H fun x H1=>∃a C dx fs v,x=.ref a∧H1 a=some (.ins C dx fs)∧Cls K C∧NoAttr K C f∧fs.lookup f=some v∧Q v H1
def sFld (K:PySem.W.Frag) (ta tv:TE) (f:Str):TS:=fun D σ H=>tv σ H fun y H1=>ta σ H1 fun x H2=>∃a C dx fs,x=.ref a∧H2 a=some (.ins C dx fs)∧Cls K C∧NoAttr K C f∧fs.length<1000 ∧
 D.nx σ (upd H2 a (.ins C dx (putF f y fs)))
def InOp (X:Cx) (op:Operator) (rd:V→V→Hp→VK→Prop):Prop:=
 ∀(pins:List (Addr×Obj)) (s:Shared) (σ:St) (H:Hp) (x y:V) (u v:Value) (Q:VK),Inv X pins σ H s→RelV x u→RelV y v→rd x y H Q→wpAny (model X.prog X.w) X.A (inplaceOp op u v) (EP X pins σ Q) X.xe s
def sFldAug (K:PySem.W.Frag) (ta tv:TE) (rd:V→V→Hp→VK→Prop) (f:Str):TS:=fun D σ H=>ta σ H fun x H1=>∃a C dx fs v,x=.ref a∧H1 a=some (.ins C dx fs)∧Cls K C∧NoAttr K C f∧fs.lookup f=some v ∧
 tv σ H1 fun y H2=>rd v y H2 fun z H3=>∃dx' fs',H3 a=some (.ins C dx' fs')∧fs'.length<1000∧D.nx σ (upd H3 a (.ins C dx' (putF f z fs')))
section
variable {X:Cx} {o e value:Expr} {f:Str} {pos pos' tpos:Pos} {ta tv:TE}
theorem pe_fld (he:PE X e ta) (hb:attributeBase e f X.env (eval e X.env)=eval e X.env):PE X (.Attribute e f pos) (tFld X.K ta f):=by
 intro pins s σ H Q I h
 refine attr_of hb (thn (he pins s σ H _ I h) fun u s1 ⟨x,H1,I1,rx,a,C,dx,fs,v,ex,ea,c,n,l,q⟩=>?_)
 subst ex
 obtain rfl:u=Value.ref a:=rx
 exact getattr_ok I1 ea c n l fun u' s2 I2 ru=>⟨v,H1,I2,ru,q⟩
theorem ps_fld (ha:PE X o ta) (hv:PE X value tv) (hs:swapsWith value (some (.Attribute o f pos')) pos.line X.env=pure false):PS X (.Assign [.Attribute o f pos'] value pos) (sFld X.K ta tv f):=by
 intro pins s σ H D I h
 refine plainObj_wpAny_Assign_Attribute (thn (hv pins s σ H _ I h) fun u s1 ⟨y,H1,I1,ry,q⟩=>thn (ha pins s1 σ H1 _ I1 q) fun ov s2 ⟨x,H2,I2,rx,a,C,dx,fs,ex,ea,c,n,l,q2⟩=>?_) hs
 subst ex
 obtain rfl:ov=Value.ref a:=rx
 exact setattr_ok I2 ea c n l ry fun s3 I3=>⟨σ,_,I3,q2⟩
theorem ps_fldaug {op:Operator} {rd:V→V→Hp→VK→Prop} (ha:PE X o ta) (hv:PE X value tv) (hop:InOp X op rd):PS X (.AugAssign (.Attribute o f tpos) op value pos) (sFldAug X.K ta tv rd f):=by
 intro pins s σ H D I h
 refine wpAny_AugAssign_AttributeAny (thn (ha pins s σ H _ I h) fun ov s1 ⟨x,H1,I1,rx,a,C,dx,fs,v,ex,ea,c,n,l,q⟩=>?_)
 subst ex
 obtain rfl:ov=Value.ref a:=rx
 refine getattr_ok I1 ea c n l fun u s2 I2 ru=>thn (hv pins s2 σ H1 _ I2 q) fun w3 s3 ⟨y,H2,I3,ry,q3⟩=>thn (hop pins s3 σ H2 v y u w3 _ I3 ru ry q3) fun w4 s4 ⟨z,H3,I4,rz,dx',fs',ea',l',q4⟩=>?_
 exact setattr_ok I4 ea' c n l' rz fun s5 I5=>⟨σ,_,I5,q4⟩
def rAdd:V→V→Hp→VK→Prop:=fun x y H Q=>∃i j,x=.int i∧y=.int j∧Q (.int (i+j)) H
theorem in_add:InOp X .Add rAdd:=by
 rintro pins s σ H x y u v Q I rx ry ⟨i,j,rfl,rfl,q⟩
 obtain ⟨t,rfl⟩:=(show ∃t,u=Value.int i t from rx)
 obtain ⟨t',rfl⟩:=(show ∃t',v=Value.int j t' from ry)
 exact PyProof.Rows.iadd_int ⟨.int (i+j),H,I.tok _,⟨_,rfl⟩,q⟩
end
section
variable {X:Cx} {pins:List (Addr×Obj)} {σ:St} {H:Hp} {s:Shared} {A:Around} {E:Value→Shared→Prop} {Q:Value→Shared→Prop} {c:Value} {b:Bool}
end
structure Room (k:Nat) (A:Around):Prop where
 hd:A.handled=none
 dp:A.depth+3*k+5<recursionLimit
 un:A.units+16*k+200<cLine
theorem Room.mono {j k:Nat} {A:Around} (r:Room k A) (h:j≤k):Room j A:=⟨r.hd,by have:=r.dp;omega,by have:=r.un;omega⟩
theorem Room.deeper {k:Nat} {A:Around} (r:Room (k+1) A) (env:Env):Room k (A.deeper env):=
 ⟨r.hd,by have:=r.dp;show A.depth+1+3*k+5<_;omega,by have:=r.un;show A.units+3+16*k+200<_;omega⟩
theorem make_depth {A:Around} {C:Addr} {us:List Value} {kw:List (Str×Value)}:(A.under (.builtin "type.__call__" ⟨.ref C::us,kw⟩)).depth=A.depth+1:=by
 first|rfl|simp[Around.under,Code.weight,Code.isCreation,Code.isGuard,Code.isCaller,Code.frames,Code.isFrame,guardIds]
theorem make_units {A:Around} {C:Addr} {us:List Value} {kw:List (Str×Value)}:(A.under (.builtin "type.__call__" ⟨.ref C::us,kw⟩)).units=A.units+1:=by
 first|rfl|simp[Around.under,Code.cUnits,Code.frames,Code.isFrame]
theorem Room.make {k:Nat} {A:Around} (r:Room (k+1) A) (C:Addr) (us:List Value) (kw:List (Str×Value)):Room k (A.under (.builtin "type.__call__" ⟨.ref C::us,kw⟩)):=
 ⟨r.hd,by have:=r.dp;rw[make_depth];omega,by have:=r.un;rw[make_units];omega⟩
theorem Room.depth {k:Nat} {A:Around} (r:Room k A):A.depth<recursionLimit:=by have:=r.dp;omega
theorem Room.units {k:Nat} {A:Around} (r:Room k A):A.units+64<cLine:=by have:=r.un;omega
def tNil:TA:=fun _ H Q=>Q [] H
def tCons (ta:TE) (tr:TA):TA:=fun σ H Q=>ta σ H fun x H1=>tr σ H1 fun xs H2=>Q (x::xs) H2
section
variable {X:Cx} {e:Expr} {es:List Expr} {te:TE} {t:TA} {pos:Pos}
theorem Zd:PA X [] tNil:=fun _ _ _ _ H Q I h=>Calls.spliced_nil ⟨[],H,I,.nil,h⟩
theorem Za (ha:PE X e te) (hr:PA X es t) (hs:starEach (e::es) X.env=(false,eval e X.env)::starEach es X.env:=by rfl):PA X (e::es) (tCons te t):=by
 intro pos pins s σ H Q I h
 rw[hs]
 show wpAny _ _ (spliced ((false,eval e X.env)::backTo pos (starEach es X.env))) _ _ s
 refine Calls.spliced_cons (thn (ha pins s σ H _ I h) fun u s1 ⟨x,H1,I1,r1,q1⟩=>?_)
 exact thn (hr pos pins s1 σ H1 _ I1 q1) fun us s2 ⟨xs,H2,I2,r2,q2⟩=>⟨x::xs,H2,I2,.cons r1 r2,q2⟩
def tLst (t:TA):TE:=fun σ H Q=>t σ H fun xs H1=>xs.length≤sizeLine∧∀p,H1 p=none→Q (.ref p) (upd H1 p (.lst xs))
theorem Zz (h:PA X es t):PE X (.List es pos) (tLst t):=by
 intro pins s σ H Q I hq
 refine wpAny_List_spliced (thn (h pos pins s σ H _ I hq) fun us s1 ⟨xs,H1,I1,r,z,q⟩=>⟨by rw[← r.length];exact z,?_⟩)
 have hf:H1 s1.heap.objs.size=none:=I1.hok.fresh (Nat.le_refl _)
 refine ⟨.ref s1.heap.objs.size,upd H1 s1.heap.objs.size (.lst xs),I1.laid (t':=s1.toks) (fun b u e=>Heap.get?_push_of_some _ e) (Nat.le_refl _) ?_,rfl,q _ hf⟩
 exact ⟨z,us,0,r,Heap.get?_push_size _ rfl⟩
end
abbrev Sp:=List V→Hp→VK→XK→Prop
abbrev CXT:=List Env→Hp→Shared→XK→Value→Shared→Prop
structure Env0 (P:Program) (w:World) (K:PySem.W.Frag) (mg:Str→Option Value) (base:Heap) (A:Around) (outer:List Env) (s:Shared) (H:Hp):Prop where
 frames:A.frames=some outer
 mod:Mod K mg base
 bs:∀b o,base.get? b=some o→s.heap.get? b=some o∧H b=none
 bsz:base.objs.size≤s.heap.objs.size
 funs:s.heap.FunFrames base outer
 frf:∀b∈frs outer,H b=none
 hok:HOk P w H s.heap
 bare:AllBare s.gens
def CE (outer:List Env) (P:Program) (w:World) (H:Hp) (s:Shared) (Q:VK) (u:Value) (s':Shared):Prop:=
 ∃v H',s'.os=s.os∧AllBare s'.gens∧Un (frs outer) [] H H' s.heap s'.heap∧HOk P w H' s'.heap∧RelV v u∧Q v H'
def CR (CX:CXT) (outer:List Env) (P:Program) (w:World) (H:Hp) (s:Shared) (Q:VK) (E:XK) (r:Result) (s':Shared):Prop:=
 match r with
 | .ok (.ret u)=>CE outer P w H s Q u s'
 | .ok _=>False
 | .error e=>CX outer H s E e s'
structure FnOk (P:Program) (w:World) (K:PySem.W.Frag) (mg:Str→Option Value) (base:Heap) (CX:CXT) (k:Nat) (f:Addr) (fd:FuncData) (ps:List Str) (sp:Sp):Prop where
 len:∀vs H Q E,sp vs H Q E→vs.length=ps.length
 run:∀(A:Around) (outer:List Env) (s:Shared) (H:Hp) (args:Args) (us:List Value) (vs:List V) (Q:VK) (E:XK),Room k A→Env0 P w K mg base A outer s H→BindsTo s fd args (ps.zip us)→Vals vs us→sp vs H Q E→
  codeAny (model P w) A (.call (.ref f) args) (CR CX outer P w H s Q E) s
theorem Env0.make {P:Program} {w:World} {K:PySem.W.Frag} {mg:Str→Option Value} {base:Heap} {A:Around} {outer:List Env} {s:Shared} {H:Hp} (e:Env0 P w K mg base A outer s H) (C:Addr) (us:List Value) (kw:List (Str×Value)):
  Env0 P w K mg base (A.under (.builtin "type.__call__" ⟨.ref C::us,kw⟩)) outer s H:=⟨by first|exact e.frames|(simpa[Around.under,Code.envs,Code.isFrame,pushEnvs] using e.frames),e.mod,e.bs,e.bsz,e.funs,e.frf,e.hok,e.bare⟩
section
variable {X:Cx} {pins:List (Addr×Obj)} {σ:St} {H:Hp} {s s':Shared}
theorem Inv.env0 (I:Inv X pins σ H s):Env0 X.prog X.w X.K X.mg X.base X.A X.stack s H:=
 ⟨I.ok.frames,I.ok.mod,I.bs,Nat.le_trans I.ok.bsz I.sz,I.stack,I.stkFree,I.hok,I.bare⟩
theorem Inv.after {Q:VK} {u:Value} (I:Inv X pins σ H s) (h:CE X.stack X.prog X.w H s Q u s'):EP X pins σ Q u s':=by
 obtain ⟨v,H',os,bare,un,hok,r,q⟩:=h
 obtain ⟨hh,g,d,t,os'⟩:=s'
 obtain rfl:os'=s.os:=os
 exact ⟨v,H',I.call (h':=hh) (g':=g) (d':=d) (t':=t) (ch:=[]) un hok bare (fun b z=>absurd z (by simp)),r,q⟩
end
def tCall (sp:Sp) (dvs:List V) (E:XK) (t:TA):TE:=fun σ H Q=>t σ H fun vs H1=>sp (vs++dvs) H1 Q E
def tMeth (C:Addr) (m:Str) (sp:Sp) (dvs:List V) (E:XK) (ta:TE) (t:TA):TE:=fun σ H Q=>ta σ H fun x H1=>∃a dx fs,x=.ref a∧H1 a=some (.ins C dx fs)∧fs.lookup m=none ∧
 t σ H1 fun vs H2=>sp (x::(vs++dvs)) H2 Q E
def tMake (C:Addr) (sp:Sp) (dvs:List V) (E:XK) (t:TA):TE:=fun σ H Q=>t σ H fun vs H1=>∀x dx,H1 x=none→H1 dx=none→dx≠x→
 sp (.ref x::(vs++dvs)) (upd (upd H1 dx (.own x)) x (.ins C dx [])) (fun v H2=>v=.non∧Q (.ref x) H2) E
def Binds (K:PySem.W.Frag) (fd:FuncData) (ps:List Str) (ds:List Value):Prop:=
 ∀(s:Shared) (us:List Value),K.In s.heap→(us++ds).length=ps.length→BindsTo s fd ⟨us,[]⟩ (ps.zip (us++ds))
theorem Binds.all {K:PySem.W.Frag} {fd:FuncData} {ps:List Str} (h:∀us:List Value,us.length=ps.length→bindArgs fd ⟨us,[]⟩=pure (ps.zip us)):Binds K fd ps []:=fun s us _ hl=>by
 rw[List.append_nil] at hl ⊢
 exact .of_eq (h us hl)
def Passes (CX:CXT) (X:Cx) (E:XK):Prop:=∀(pins:List (Addr×Obj)) (σ:St) (H:Hp) (s:Shared) (e:Value) (s':Shared),Inv X pins σ H s→CX X.stack H s E e s'→X.xe e s'
section
variable {X:Cx} {CX:CXT} {k:Nat} {f C:Addr} {fd:FuncData} {ps:List Str} {sp:Sp} {dvs:List V} {ds:List Value} {E:XK} {x m:Str} {p pos apos:Pos} {e o:Expr} {es:List Expr} {ta:TE} {t:TA}
theorem run_fn {pins:List (Addr×Obj)} {σ:St} {H:Hp} {s:Shared} {Q:VK} {us:List Value} {vs:List V} (F:FnOk X.prog X.w X.K X.mg X.base CX k f fd ps sp) (hr:Room k X.A) (hb:Binds X.K fd ps ds) (hd:Vals dvs ds) (hx:Passes CX X E)
  (I:Inv X pins σ H s) (r:Vals vs us) (h:sp (vs++dvs) H Q E):wpAny (model X.prog X.w) X.A (call (.ref f) us) (EP X pins σ Q) X.xe s:=by
 have r2:Vals (vs++dvs) (us++ds):=r.append hd
 have hl:(us++ds).length=ps.length:=by rw[← r2.length];exact F.len _ _ _ _ h
 refine wpAny_call (codeAny_mono (F.run X.A X.stack s H ⟨us,[]⟩ (us++ds) (vs++dvs) Q E hr I.env0 (hb s us I.kIn hl) r2 h) fun r s' hq=>?_)
 cases r with
 | error e=>exact hx pins σ H s e s' I hq
 | ok fl=>
  cases fl with
  | ret u=>exact I.after hq
  | next=>exact False.elim hq
  | brk=>exact False.elim hq
  | cont=>exact False.elim hq
theorem pe_call (F:FnOk X.prog X.w X.K X.mg X.base CX k f fd ps sp) (hr:Room k X.A) (hg:Gl X x) (hm:X.mg x=some (.ref f)) (hk:PySem.W.keepIn X.K (.ref f)=true) (hb:Binds X.K fd ps ds) (hd:Vals dvs ds) (hx:Passes CX X E)
  (ha:PA X (e::es) t) (hdb:(x==("__debug__":Str))=false:=by decide) (he:starEach (e::es) X.env=(false,eval e X.env)::starEach es X.env:=by rfl) (hpl:(backTo pos (starEach es X.env)).any (·.1)=false:=by rfl):
  PE X (.Call (.Name x p) (e::es) [] pos) (tCall sp dvs E t):=by
 intro pins s σ H Q I h
 refine wpAny_Call_Name_kw (ld_glob I hg hm ?_ hdb)
 refine PySem.W.callWith_K (h₀:=X.base) I.ok.mod.kin hk (thn (ha pos pins s σ H _ I h) fun us s1 ⟨vs,H1,I1,r,q⟩=>⟨I1.kIn,?_⟩) he hpl
 exact run_fn F hr hb hd hx I1 r q
theorem pe_meth {pl:Sem Bool} (he:PE X o ta) (c:Cls X.K C) (hm:Meth X.K C m f) (F:FnOk X.prog X.w X.K X.mg X.base CX k f fd ps sp) (hr:Room k X.A) (hb:Binds X.K fd ps ds) (hd:Vals dvs ds) (hx:Passes CX X E) (ha:PA X (e::es) t)
  (hst:starEach (e::es) X.env=(false,eval e X.env)::starEach es X.env:=by rfl) (hpl:(backTo pos (starEach es X.env)).any (·.1)=false:=by rfl)
  (ht:eval (.Call (.Attribute o m apos) (e::es) [] pos) X.env=(do
   let ov ← eval o X.env
   standAt apos.atName
   let (f,first) ← holding [ov] (getMethod ov m pl)
   callWith pos f first (backTo pos (starEach (e::es) X.env)) (backToKw pos (keywordEach [] X.env))):=by rfl):
  PE X (.Call (.Attribute o m apos) (e::es) [] pos) (tMeth C m sp dvs E ta t):=by
 intro pins s σ H Q I h
 refine PySem.W.methodCall_KW (pl:=pl) (thn (he pins s σ H _ I h) fun u s1 ⟨x,H1,I1,rx,a,dx,fs,ex,ea,l,q⟩=>?_) ht
 subst ex
 obtain rfl:u=Value.ref a:=rx
 refine getmeth_ok I1 ea c hm l ?_
 refine PySem.W.callWith_K (first:=[.ref a]) (h₀:=X.base) I.ok.mod.kin hm.kp (thn (ha pos pins s1 σ H1 _ I1 q) fun us s2 ⟨vs,H2,I2,r,q2⟩=>⟨I2.kIn,?_⟩) hst hpl
 exact run_fn (us:=.ref a::us) (vs:=.ref a::vs) F hr hb hd hx I2 (.cons rfl r) q2
theorem pe_meth0 {pl:Sem Bool} (he:PE X o ta) (c:Cls X.K C) (hm:Meth X.K C m f) (F:FnOk X.prog X.w X.K X.mg X.base CX k f fd ps sp) (hr:Room k X.A) (hb:Binds X.K fd ps ds) (hd:Vals dvs ds) (hx:Passes CX X E)
  (ht:eval (.Call (.Attribute o m apos) [] [] pos) X.env=(do
   let ov ← eval o X.env
   standAt apos.atName
   let (f,first) ← holding [ov] (getMethod ov m pl)
   callWith pos f first (backTo pos (starEach [] X.env)) (backToKw pos (keywordEach [] X.env))):=by rfl):
  PE X (.Call (.Attribute o m apos) [] [] pos) (tMeth C m sp dvs E ta tNil):=by
 intro pins s σ H Q I h
 refine PySem.W.methodCall_KW (pl:=pl) (thn (he pins s σ H _ I h) fun u s1 ⟨x,H1,I1,rx,a,dx,fs,ex,ea,l,q⟩=>?_) ht
 subst ex
 obtain rfl:u=Value.ref a:=rx
 refine getmeth_ok I1 ea c hm l ?_
 exact PySem.W.callWith_K0 (first:=[.ref a]) I1.kIn hm.kp (run_fn (us:=[.ref a]) (vs:=[.ref a]) F hr hb hd hx I1 (.cons rfl .nil) q)
structure Mk (K:PySem.W.Frag) (C f:Addr):Prop where
 makes:PySem.W.makesIn K C=true
 init:PySem.W.findIn K (.ref C) "__init__"=some (some (.ref f))
 fn:PySem.W.isFn K (.ref f)=true
 kp:PySem.W.keepIn K (.ref C)=true
theorem run_make {pins:List (Addr×Obj)} {σ:St} {H:Hp} {s:Shared} {Q:VK} {us:List Value} {vs:List V} (M:Mk X.K C f) (F:FnOk X.prog X.w X.K X.mg X.base CX k f fd ps sp) (hr:Room (k+1) X.A) (hb:Binds X.K fd ps ds) (hd:Vals dvs ds)
  (hx:Passes CX X E) (I:Inv X pins σ H s) (r:Vals vs us)
  (h:∀x dx,H x=none→H dx=none→dx≠x→sp (.ref x::(vs++dvs)) (upd (upd H dx (.own x)) x (.ins C dx [])) (fun v H2=>v=.non∧Q (.ref x) H2) E):
  wpAny (model X.prog X.w) X.A (call (.ref C) us) (EP X pins σ Q) X.xe s:=by
 have hq:=h (s.heap.objs.size+1) s.heap.objs.size (I.hok.fresh (Nat.le_succ _)) (I.hok.fresh (Nat.le_refl _)) (Nat.ne_of_lt (Nat.lt_succ_self _))
 have I2:=Inv.made (C:=C) I
 have r2:Vals (V.ref (s.heap.objs.size+1)::(vs++dvs)) (Value.ref (s.heap.objs.size+1)::(us++ds)):=.cons rfl (r.append hd)
 have hl:(Value.ref (s.heap.objs.size+1)::us++ds).length=ps.length:=by
  have e:=r2.length
  rw[F.len _ _ _ _ hq] at e
  exact e.symm
 refine wpAny_call (make_map (f:=f) I.kIn M.makes M.init (beq_iff_eq.mp M.fn) (codeAny_mono (F.run _ X.stack _ _ ⟨Value.ref (s.heap.objs.size+1)::us,[]⟩ (Value.ref (s.heap.objs.size+1)::(us++ds)) _ _ E (hr.make C us [])
  (I2.env0.make C us []) (hb _ (Value.ref (s.heap.objs.size+1)::us) I2.kIn hl) r2 hq) fun r s' hq'=>?_))
 cases r with
 | error e=>exact hx pins σ _ _ e s' I2 hq'
 | ok fl=>
  cases fl with
  | ret u=>
   obtain ⟨v,H',I3,rv,ev,q3⟩:=I2.after hq'
   subst ev
   exact ⟨rv,⟨V.ref (s.heap.objs.size+1),H',I3,rfl,q3⟩⟩
  | next=>exact False.elim hq'
  | brk=>exact False.elim hq'
  | cont=>exact False.elim hq'
theorem pe_make (M:Mk X.K C f) (F:FnOk X.prog X.w X.K X.mg X.base CX k f fd ps sp) (hr:Room (k+1) X.A) (hg:Gl X x) (hm:X.mg x=some (.ref C)) (hb:Binds X.K fd ps ds) (hd:Vals dvs ds) (hx:Passes CX X E)
  (ha:PA X (e::es) t) (hdb:(x==("__debug__":Str))=false:=by decide) (he:starEach (e::es) X.env=(false,eval e X.env)::starEach es X.env:=by rfl) (hpl:(backTo pos (starEach es X.env)).any (·.1)=false:=by rfl):
  PE X (.Call (.Name x p) (e::es) [] pos) (tMake C sp dvs E t):=by
 intro pins s σ H Q I h
 refine wpAny_Call_Name_kw (ld_glob I hg hm ?_ hdb)
 refine PySem.W.callWith_K (h₀:=X.base) I.ok.mod.kin M.kp (thn (ha pos pins s σ H _ I h) fun us s1 ⟨vs,H1,I1,r,q⟩=>⟨I1.kIn,?_⟩) he hpl
 exact run_make M F hr hb hd hx I1 r q
theorem pe_make0 (M:Mk X.K C f) (F:FnOk X.prog X.w X.K X.mg X.base CX k f fd ps sp) (hr:Room (k+1) X.A) (hg:Gl X x) (hm:X.mg x=some (.ref C)) (hb:Binds X.K fd ps ds) (hd:Vals dvs ds) (hx:Passes CX X E)
  (hdb:(x==("__debug__":Str))=false:=by decide):PE X (.Call (.Name x p) [] [] pos) (tMake C sp dvs E tNil):=by
 intro pins s σ H Q I h
 refine wpAny_Call_Name_kw (ld_glob I hg hm ?_ hdb)
 exact PySem.W.callWith_K0 I.kIn M.kp (run_make (us:=[]) M F hr hb hd hx I .nil h)
end
section
variable {X:Cx} {CX:CXT} {k:Nat} {f C:Addr} {fd:FuncData} {ps ks:List Str} {sp:Sp} {E:XK} {x m:Str} {p pos apos kpos:Pos} {e o:Expr} {es:List Expr} {kws:List Keyword} {te ta:TE} {t tk:TA} {nm:Option Str}
variable {g:List Value→List Value→List Value} {gV:List V→List V→List V}
end
structure FnScope (N P:List Str) (sc:Scope):Prop where
 kind:sc.kind=.function
 co:sc.isCoroutine=false
 gen:sc.isGenerator=false
 nd:N.Nodup
 pre:N.take P.length=P
 par:∀x∈P,sc.names.lookup x=some .local∨sc.names.lookup x=some .cell
 nofree:∀y∈sc.names,y.2≠.free
theorem bindL_out {kindOf:Str→Option NameKind} {x:Str}:∀{binds:List (Str×Value)} {m:Str→Option Value},(∀v,(x,v)∉binds)→bindL kindOf binds m x=m x
 | [],_,_=>rfl
 | (n,v)::r,m,h=>by
  unfold bindL
  rw[bindL_out fun w hw=>h w (List.mem_cons_of_mem _ hw)]
  split
  ·have:x≠n:=by rintro rfl;exact h v List.mem_cons_self
   simp[this]
  ·rfl
theorem bindC_out {kindOf:Str→Option NameKind} {x:Str}:∀{binds:List (Str×Value)} {m:Str→Option Value},(∀v,(x,v)∉binds)→bindC kindOf binds m x=m x
 | [],_,_=>rfl
 | (n,v)::r,m,h=>by
  unfold bindC
  rw[bindC_out fun w hw=>h w (List.mem_cons_of_mem _ hw)]
  split
  ·rfl
  ·have:x≠n:=by rintro rfl;exact h v List.mem_cons_self
   simp[this]
theorem bindL_get {kindOf:Str→Option NameKind} {x:Str} {v:Value}:∀{P:List Str} {vs:List Value} {i:Nat} {m:Str→Option Value},P.Nodup→P[i]?=some x→vs[i]?=some v→kindOf x=some .local→
  bindL kindOf (P.zip vs) m x=some v
 | [],_,_,_,_,h,_,_=>by simp at h
 | _::_,[],_,_,_,_,h,_=>by simp at h
 | p::P,w::vs,0,m,nd,h1,h2,hk=>by
  simp at h1 h2;subst h1;subst h2
  show bindL kindOf ((p,w)::P.zip vs) m p=_
  unfold bindL
  rw[bindL_out fun v hv=>(List.nodup_cons.mp nd).1 (List.of_mem_zip hv).1,if_pos hk]
  simp
 | p::P,w::vs,i+1,m,nd,h1,h2,hk=>by
  show bindL kindOf ((p,w)::P.zip vs) m x=_
  unfold bindL
  exact bindL_get (i:=i) (List.nodup_cons.mp nd).2 (by simpa using h1) (by simpa using h2) hk
theorem bindC_get {kindOf:Str→Option NameKind} {x:Str} {v:Value}:∀{P:List Str} {vs:List Value} {i:Nat} {m:Str→Option Value},P.Nodup→P[i]?=some x→vs[i]?=some v→kindOf x≠some .local→
  bindC kindOf (P.zip vs) m x=some v
 | [],_,_,_,_,h,_,_=>by simp at h
 | _::_,[],_,_,_,_,h,_=>by simp at h
 | p::P,w::vs,0,m,nd,h1,h2,hk=>by
  simp at h1 h2;subst h1;subst h2
  show bindC kindOf ((p,w)::P.zip vs) m p=_
  unfold bindC
  rw[bindC_out fun v hv=>(List.nodup_cons.mp nd).1 (List.of_mem_zip hv).1,if_neg hk]
  simp
 | p::P,w::vs,i+1,m,nd,h1,h2,hk=>by
  show bindC kindOf ((p,w)::P.zip vs) m x=_
  unfold bindC
  exact bindC_get (i:=i) (List.nodup_cons.mp nd).2 (by simpa using h1) (by simpa using h2) hk
def start (N:List Str) (vs:List V):St:=vs.map some++List.replicate (N.length-vs.length) none
def cxOf (CX:CXT) (P:Program) (w:World) (K:PySem.W.Frag) (mg:Str→Option Value) (base:Heap) (N:List Str) (qual:Str) (scope:Scope) (f:Addr) (cd:Value) (A:Around) (outer:List Env) (s:Shared) (H:Hp) (E:XK):Cx where
 prog:=P
 w:=w
 K:=K
 mg:=mg
 base:=base
 A:=A.deeper (envOfC qual scope s.heap.objs.size f cd)
 N:=N
 s_0:=s
 H_0:=H
 env:=envOfC qual scope s.heap.objs.size f cd
 outer:=outer
 stack:=envOfC qual scope s.heap.objs.size f cd::outer
 ex:=[]
 calm:=true
 fn:=fun _=>true
 pn:=[]
 xe:=fun e s'=>wpAny (model P w) (A.deeper (envOfC qual scope s.heap.objs.size f cd)) (leaving (envOfC qual scope s.heap.objs.size f cd) e) (fun _ s''=>CX outer H s E e s'') (fun e' s''=>CX outer H s E e' s'') s'
theorem cell_has {sc:Scope} {n:Nat} {x:Str} (h:sc.names.lookup x=some .cell):∃c,(cellsFrom n sc.names []).lookup x=some c:=by
 have q:=PySem.W.cellsFrom_some sc.names n [] (.inl h)
 exact Option.isSome_iff_exists.mp q
theorem inv_start {CX:CXT} {P:Program} {w:World} {K:PySem.W.Frag} {mg:Str→Option Value} {base:Heap} {N ps:List Str} {qual:Str} {scope:Scope} {f:Addr} {cd:Value} {A:Around} {outer:List Env} {s s1:Shared} {H:Hp} {E:XK} {us:List Value} {vs:List V}
  (S:FnScope N ps scope) (hd:A.handled=none) (e0:Env0 P w K mg base A outer s H) (hl:vs.length=ps.length) (r:Vals vs us)
  (x:InCallC s s.heap.objs.size (bindL (envOfC qual scope s.heap.objs.size f cd).kindOf (ps.zip us) fun _=>none) (cellsFrom (s.heap.objs.size+1) scope.names []) (bindC (envOfC qual scope s.heap.objs.size f cd).kindOf (ps.zip us) fun _=>none) s1):
  Inv (cxOf CX P w K mg base N qual scope f cd A outer s H E) [] (start N vs) H s1:=by
 have hpl:ps.length≤N.length:=by have:=congrArg List.length S.pre;rw[List.length_take] at this;omega
 obtain ⟨h1,tk,rfl,hk⟩:=x.done
 have noA:∀b:Addr,b∉(cxOf CX P w K mg base N qual scope f cd A outer s H E).ex:=fun b z=>absurd (show b∈([]:List Addr) from z) (by simp)
 refine ⟨⟨e0.mod,S.kind,rfl,rfl,Nat.le_refl _,fun y z c h1 h2=>?_,fun y hy=>?_,fun y c _ h=>?_,fun _=>hd,Around.frames_deeper e0.frames,.inr ⟨rfl,rfl⟩,fun b z=>absurd z (noA b),e0.bs,e0.bsz,fun b _ _=>noA b,fun b z=>absurd z (noA b),e0.funs,e0.frf⟩,
  rfl,e0.bare,Un.kept hk,⟨_,x.toInCall.ns,fun i y v h1 h2 h3=>?_⟩,fun y c h=>⟨_,x.cell y c h⟩,e0.hok.fresh (Nat.le_refl _),fun y c h=>?_,fun p hp=>absurd (show p∈([]:List (Addr×Obj)) from hp) (by simp),e0.hok.kept hk,?_⟩
 ·exact name_of_addr x.apart (PySem.mem_of_lookup h1) (PySem.mem_of_lookup h2)
 ·have hy:scope.names.lookup y=some .cell∨scope.names.lookup y=some .free:=hy
  rcases hy with hy|hy
  ·exact cell_has hy
  ·exact absurd rfl (S.nofree _ (PySem.mem_of_lookup hy))
 ·exact Nat.le_of_lt (x.above y c (PySem.mem_of_lookup h))
 ·have hi:i<vs.length:=by
   unfold start at h2
   by_cases hi:i<vs.length
   ·exact hi
   ·rw[List.getElem?_append_right (by simpa using hi)] at h2
    rw[List.getElem?_replicate] at h2
    split at h2<;>cases h2
  have ha:vs[i]?=some v:=by
   unfold start at h2
   rw[List.getElem?_append_left (by simpa using hi),List.getElem?_map] at h2
   cases e:vs[i]? with
   | none=>rw[e] at h2;cases h2
   | some a=>rw[e] at h2;cases h2;rfl
  obtain ⟨u,hu,rv⟩:=r.get ha
  have hp:ps[i]?=some y:=by
   rw[← S.pre,List.getElem?_take_of_lt (by omega)];exact h1
  have ndP:ps.Nodup:=by rw[← S.pre];exact S.nd.sublist (List.take_sublist _ _)
  refine ⟨u,rv,?_⟩
  rcases S.par y (List.mem_of_getElem? hp) with k|k
  ·exact .inl ⟨k,bindL_get ndP hp hu k⟩
  ·obtain ⟨c,e⟩:=cell_has (n:=s.heap.objs.size+1) k
   refine .inr ⟨.inl k,c,e,?_⟩
   have q:=x.cell y c e
   rw[bindC_get ndP hp hu (by show scope.names.lookup y≠_;rw[k];decide)] at q
   exact q
 ·exact e0.hok.fresh (Nat.le_of_lt (x.above y c (PySem.mem_of_lookup h)))
 ·unfold start
  show _=N.length
  rw[List.length_append,List.length_map,List.length_replicate]
  omega
theorem fn_of {CX:CXT} {P:Program} {w:World} {K:PySem.W.Frag} {mg:Str→Option Value} {base:Heap} {k:Nat} {f:Addr} {name qual:Str} {params:Arguments} {body:List Stmt} {scope:Scope} {dV kV doc pm cdv ct oc:Value} {an od:Option Addr}
  {osl:Array (Option Value)} {N ps:List Str} {sp:Sp} (lk:K.lookup f=some ⟨oc,od,.func (PySem.W.fnOf name qual params body scope dV kV doc pm an cdv ct),osl⟩) (hcd:PySem.W.codeIn K cdv qual=true) (S:FnScope N ps scope)
  (len:∀vs H Q E,sp vs H Q E→vs.length=ps.length)
  (hbody:∀(A:Around) (outer:List Env) (s:Shared) (H:Hp) (vs:List V) (Q:VK) (E:XK),Room k (A.deeper (envOfC qual scope s.heap.objs.size f cdv))→sp vs H Q E→
   ∃t,PSs (cxOf CX P w K mg base N qual scope f cdv A outer s H E) body t∧t { nx:=fun _ H'=>Q .non H',rt:=Q } (start N vs) H):
  FnOk P w K mg base CX (k+1) f (PySem.W.fnOf name qual params body scope dV kV doc pm an cdv ct) ps sp:=by
 refine ⟨len,fun A outer s H args us vs Q E hr e0 hb r hsp=>?_⟩
 have hl:=len _ _ _ _ hsp
 have KX:K.In s.heap:=e0.mod.kin.keeps fun b o e=>(e0.bs b o e).1
 have lim:s.heap.NoLimit:=e0.mod.nolimit.keeps fun b o e=>(e0.bs b o e).1
 have hkind:∀y∈ps.zip us,scope.names.lookup y.1=some .local∨(scope.names.lookup y.1=some .cell∧((cellsFrom (s.heap.objs.size+1) scope.names []).lookup y.1).isSome=true):=fun ⟨n,v⟩ hy=>by
  rcases S.par n (List.of_mem_zip hy).1 with q|q
  ·exact .inl q
  ·exact .inr ⟨q,PySem.W.cellsFrom_some _ _ _ (.inl q)⟩
 refine codeAny_call_function hr.depth (KX _ _ lk) rfl S.co S.gen rfl (PySem.W.codeRec_of KX hcd) (hb _ _ _ _ ?_)
 refine wpAny_newFunctionEnv_cells S.kind hkind fun env he s1 x=>?_
 subst he
 refine ⟨lim.keeps x.toInCall.keep,codeAny_func ?_⟩
 obtain ⟨t,ht,hq⟩:=hbody A outer s H vs Q E (hr.deeper _) hsp
 have I:Inv (cxOf CX P w K mg base N qual scope f cdv A outer s H E) [] (start N vs) H s1:=inv_start S hr.hd e0 hl r x
 refine wpAny_mono (ht [] s1 (start N vs) H _ I hq) (fun fl s' hs=>?_) fun e s' hs=>hs
 have fin:∀{σ':St} {H':Hp} {v:V} {u:Value},Inv (cxOf CX P w K mg base N qual scope f cdv A outer s H E) [] σ' H' s'→RelV v u→Q v H'→CE outer P w H s Q u s':=
  fun {σ' H' v u} J rv q=>⟨v,H',J.os,J.bare,J.base,J.hok,rv,q⟩
 cases fl with
 | ret u=>
  obtain ⟨v,σ',H',J,rv,q⟩:=hs
  exact fin J rv q
 | next=>
  obtain ⟨σ',H',J,q⟩:=hs
  exact fin (v:=V.non) (u:=Value.none) J rfl q
 | brk=>
  obtain ⟨_,_,_,q⟩:=hs
  exact False.elim q
 | cont=>
  obtain ⟨_,_,_,q⟩:=hs
  exact False.elim q
section
variable {X:Cx} {x:Str} {p pos:Pos} {e:Expr} {es:List Expr} {t:TA} {id T:String} {r:List V→Hp→VK→Prop}
def tCB (r:List V→Hp→VK→Prop) (t:TA):TE:=fun σ H Q=>t σ H fun vs H1=>r vs H1 Q
theorem Zs (hc:CallR X (.builtin id) r) (hg:Gl X x) (hm:X.mg x=none) (hv:bootBuiltins x=some (.builtin id)) (ha:PA X (e::es) t) (hn:x≠"__name__":=by decide) (hdb:(x==("__debug__":Str))=false:=by decide)
  (he:starEach (e::es) X.env=(false,eval e X.env)::starEach es X.env:=by rfl) (hpl:(backTo pos (starEach es X.env)).any (·.1)=false:=by rfl):PE X (.Call (.Name x p) (e::es) [] pos) (tCB r t):=by
 intro pins s σ H Q I h
 refine wpAny_Call_Name_kw (ld_blt I hg hm hv ?_ hn hdb)
 exact PyProof.Rows.callWith_builtin1 (thn (ha pos pins s σ H _ I h) fun us s1 ⟨vs,H1,I1,r1,q1⟩=>hc pins s1 σ H1 vs us Q I1 r1 q1) he hpl
theorem pe_callTy (hc:CallR X (.type T) r) (hg:Gl X x) (hm:X.mg x=none) (hv:bootBuiltins x=some (.type T)) (ha:PA X (e::es) t) (hn:x≠"__name__":=by decide) (hdb:(x==("__debug__":Str))=false:=by decide)
  (he:starEach (e::es) X.env=(false,eval e X.env)::starEach es X.env:=by rfl) (hpl:(backTo pos (starEach es X.env)).any (·.1)=false:=by rfl):PE X (.Call (.Name x p) (e::es) [] pos) (tCB r t):=by
 intro pins s σ H Q I h
 refine wpAny_Call_Name_kw (ld_blt I hg hm hv ?_ hn hdb)
 exact PyProof.Rows.callWith_type1 (thn (ha pos pins s σ H _ I h) fun us s1 ⟨vs,H1,I1,r1,q1⟩=>hc pins s1 σ H1 vs us Q I1 r1 q1) he hpl
end
end L2
namespace HT
open PySem PyProof.Rows
section
open PySem.SeqAt
open PySem.AutoSeq1 (wpAny_loadPart')
open PySem.MeetsSeq PySem.MeetsSeq2 PySem.MeetsSeq3
end
section
variable {prog:Program} {w:World} {A:Around} {E:Value→Shared→Prop} {s:Shared}
def sIx (n d:Nat):Option Int→Nat
 | none=>d
 | some v=>if v<0 then (v+(n:Int)).toNat else min v.toNat n
theorem sIx_none (n d:Nat):sIx n d none=d:=rfl
theorem sIx_nat (n d k:Nat):sIx n d (some (k:Int))=min k n:=by
 show (if (k:Int)<0 then ((k:Int)+(n:Int)).toNat else min (k:Int).toNat n)=min k n
 rw[if_neg (by omega),Int.toNat_natCast]
end
end HT
namespace L2
open PySem PySem.Spec PyProof.Rows
abbrev TO:=St→Hp→(Option Int→Hp→Prop)→Prop
def PO (X:Cx) (e:Option Expr) (t:TO):Prop:=
 ∀(pins:List (Addr×Obj)) (s:Shared) (σ:St) (H:Hp) (Q:Option Int→Hp→Prop),Inv X pins σ H s→t σ H Q→
  wpAny (model X.prog X.w) X.A (evalPart e X.env) (fun u s'=>∃o H',Inv X pins σ H' s'∧IsPart u o∧Q o H') X.xe s
def tNoPart:TO:=fun _ H Q=>Q none H
def tPart (t:TE):TO:=fun σ H Q=>t σ H fun x H1=>∃i,x=.int i∧Q (some i) H1
section
variable {X:Cx} {e:Expr} {te:TE} {lo hi:Option Expr} {tl th:TO} {pos p2:Pos}
theorem Yt:PO X none tNoPart:=by
 intro pins s σ H Q I h
 rw[evalPart_none]
 exact wpAny_pure ⟨none,H,I,.none,h⟩
theorem Zv (h:PE X e te):PO X (some e) (tPart te):=by
 intro pins s σ H Q I hw
 rw[evalPart_some]
 refine thn (h pins s σ H _ I hw) fun u s1 ⟨x,H1,I1,r1,q1⟩=>?_
 obtain ⟨i,rfl,q⟩:=q1
 obtain ⟨t,rfl⟩:=r1
 exact ⟨some i,H1,I1,.int i t,q⟩
def SlR (X:Cx) (r:V→Option Int→Option Int→Hp→VK→Prop):Prop:=
 ∀(pins:List (Addr×Obj)) (s:Shared) (σ:St) (H:Hp) (x:V) (v vl vu:Value) (lo hi:Option Int) (sl:Addr) (Q:VK),Inv X pins σ H s→RelV x v→s.heap.IsSliceOf sl vl vu .none→IsPart vl lo→IsPart vu hi→r x lo hi H Q→
  ∃T id,typeLookup (.type T) "__getitem__"=pure (some (.builtin id))∧s.TypeIs v T∧wpAny (model X.prog X.w) X.A (getItem v (.ref sl)) (EP X pins σ Q) X.xe s
def tSl (r:V→Option Int→Option Int→Hp→VK→Prop) (te:TE) (tl th:TO):TE:=fun σ H Q=>te σ H fun x H1=>tl σ H1 fun l H2=>th σ H2 fun u H3=>r x l u H3 Q
theorem Z1 {r:V→Option Int→Option Int→Hp→VK→Prop} (hr:SlR X r) (he:PE X e te) (hl:PO X lo tl) (hu:PO X hi th):PE X (.Subscript e (.Slice lo hi none p2) pos) (tSl r te tl th):=by
 intro pins s σ H Q I h
 refine Subscript_ (thn (he pins s σ H _ I h) fun v s1 ⟨x,H1,I1,r1,q1⟩=>?_)
 refine wpAny_Slice (thn (hl pins s1 σ H1 _ I1 q1) fun vl s2 ⟨l,H2,I2,pl,q2⟩=>thn (hu pins s2 σ H2 _ I2 q2) fun vu s3 ⟨u,H3,I3,pu,q3⟩=>?_)
 rw[evalPart_none]
 refine wpAny_pure ?_
 have I4:Inv X pins σ H3 { s3 with heap:=s3.heap.push { cls:=.type "slice",data:=.fields #[vl,vu,.none] } }:=I3.kept (t':=s3.toks) fun b ob q=>Heap.get?_push_of_some _ q
 obtain ⟨T,id,hT,ht,hg⟩:=hr pins { s3 with heap:=s3.heap.push { cls:=.type "slice",data:=.fields #[vl,vu,.none] } } σ H3 x v vl vu l u s3.heap.objs.size Q I4 r1 (Heap.IsSliceOf.new ..) pl pu q3
 show wpAny (model X.prog X.w) X.A (subscriptTail e (.Slice lo hi none p2) v (.ref s3.heap.objs.size)) (EP X pins σ Q) X.xe { s3 with heap:=s3.heap.push { cls:=.type "slice",data:=.fields #[vl,vu,.none] } }
 exact tail_any (ops:=[.ref s3.heap.objs.size,v]) ht hT hg (by with_unfolding_all rfl)
def cutV (xs:List V) (lo hi:Option Int):List V:=(xs.drop (HT.sIx xs.length 0 lo)).take (HT.sIx xs.length xs.length hi-HT.sIx xs.length 0 lo)
theorem cutV_length (xs:List V) (lo hi:Option Int):(cutV xs lo hi).length≤xs.length:=by
 unfold cutV
 rw[List.length_take,List.length_drop]
 omega
end
def ixN (n:Nat) (i:Int):Option Nat:=if 0≤i then (if i<n then some i.toNat else none) else if -(n:Int)≤i then some (i+n).toNat else none
def atI {α:Type} (xs:List α) (i:Int):Option α:=(ixN xs.length i).bind fun j=>xs[j]?
theorem ixN_seq {n:Nat} {i:Int} {j:Nat} (h:ixN n i=some j):seqIndex? i n=some j∧j<n∧-(n:Int)≤i∧i<n:=by
 unfold ixN at h
 by_cases h0:0≤i
 ·rw[if_pos h0] at h
  by_cases h1:i<n
  ·rw[if_pos h1] at h
   have e:i.toNat=j:=Option.some.inj h
   exact ⟨by rw[seqIndex_of h0 h1,e],by omega,by omega,h1⟩
  ·rw[if_neg h1] at h;cases h
 ·rw[if_neg h0] at h
  by_cases h1:-(n:Int)≤i
  ·rw[if_pos h1] at h
   have e:(i+n).toNat=j:=Option.some.inj h
   exact ⟨by rw[seqIndex_neg (by omega) h1,e],by omega,h1,by omega⟩
  ·rw[if_neg h1] at h;cases h
theorem atI_get {α:Type} {xs:List α} {i:Int} {v:α} (h:atI xs i=some v):∃j,seqIndex? i xs.length=some j∧xs[j]?=some v∧j<xs.length∧-(xs.length:Int)≤i∧i<xs.length:=by
 unfold atI at h
 cases e:ixN xs.length i with
 | none=>rw[e] at h;cases h
 | some j=>
  rw[e] at h
  obtain ⟨h1,h2,h3,h4⟩:=ixN_seq e
  exact ⟨j,h1,h,h2,h3,h4⟩
theorem atI_nat {α:Type} {xs:List α} {j:Nat} {v:α} (h:xs[j]?=some v):atI xs (j:Int)=some v:=by
 have hj:j<xs.length:=(List.getElem?_eq_some_iff.mp h).1
 have e:ixN xs.length (j:Int)=some j:=by
  unfold ixN
  rw[if_pos (by omega),if_pos (by omega)];simp
 unfold atI;rw[e];exact h
def PlainIx (b:Expr):Prop:=∀o i,subscripted b false o i=operate [o,i] (getItem o i)
def IxR (X:Cx) (r:R2):Prop:=
 ∀(value slice:Expr) (pins:List (Addr×Obj)) (s:Shared) (σ:St) (H:Hp) (x y:V) (v u:Value) (Q:VK),Inv X pins σ H s→RelV x v→RelV y u→r x y H Q→
  subscripted slice false v u=operate [v,u] (getItem v u)→wpAny (model X.prog X.w) X.A (subscriptTail value slice v u) (EP X pins σ Q) X.xe s
def MtR (X:Cx) (id:String) (r:V→List V→Hp→VK→Prop):Prop:=
 ∀(pins:List (Addr×Obj)) (s:Shared) (σ:St) (H:Hp) (x:V) (xs:List V) (v:Value) (us:List Value) (Q:VK),Inv X pins σ H s→RelV x v→Vals xs us→r x xs H Q→
  wpAny (model X.prog X.w) X.A (call (.builtin id) (v::us)) (EP X pins σ Q) X.xe s
section
variable {X:Cx} {a b:Expr} {ta tb:TE} {pos:Pos}
theorem Zx {r:R2} (hr:IxR X r) (ha:PE X a ta) (hb:PE X b tb) (hs:PlainIx b):PE X (.Subscript a b pos) (tOp r ta tb):=by
 intro pins s σ H Q I h
 exact Subscript_ (binT ha hb I h fun v u s2 x y H2 I2 rx ry q=>hr a b pins s2 σ H2 x y v u Q I2 rx ry q (hs _ _))
def rIxL (K:PySem.W.Frag):R2:=fun x y H Q=>∃p xs i v,x=.ref p∧y=.int i∧SqL K H p xs∧atI xs i=some v∧Q v H
def rIxT (K:PySem.W.Frag):R2:=fun x y H Q=>∃p xs i v,x=.ref p∧y=.int i∧SqT K H p xs∧atI xs i=some v∧Q v H
theorem ix_list:IxR X (rIxL X.K):=by
 intro value slice pins s σ H x y v u Q I rx ry h hs
 obtain ⟨p,xs,i,z,rfl,rfl,hq,he,q⟩:=h
 cases rx
 obtain ⟨t,rfl⟩:=ry
 obtain ⟨its,r,pl,hz⟩:=I.list hq
 obtain ⟨j,h1,h2,h3,h4,h5⟩:=atI_get he
 obtain ⟨w,ew,rw'⟩:=r.get h2
 have hl:=r.length
 have hn:=line63
 have fin:EP X pins σ Q w s:=⟨z,H,I,rw',q⟩
 by_cases h0:0≤i
 ·have hj:i.toNat=j:=by
   rw[seqIndex_of h0 h5] at h1
   exact Option.some.inj h1
  exact item_listR pl.isList h0 (by omega) (by rw[hj];simpa using ew) fin hs
 ·have hj:(i+(its.toArray.size:Int)).toNat=j:=by
   rw[seqIndex_neg (by omega) h4] at h1
   rw[List.size_toArray,← hl]
   exact Option.some.inj h1
  exact subscriptTail_builtinR (x:=w) pl.isList.typeIs slot_list_getitem.lookup
   (wpAny_getItem_list_neg (Q:=fun r s'=>r=w∧EP X pins σ Q r s') pl.isList (by omega) (by rw[List.size_toArray]<;>omega) (by omega) (by rw[hj];simpa using ew) ⟨rfl,fin⟩) hs
theorem ix_tup:IxR X (rIxT X.K):=by
 intro value slice pins s σ H x y v u Q I rx ry h hs
 obtain ⟨p,xs,i,z,rfl,rfl,hq,he,q⟩:=h
 cases rx
 obtain ⟨t,rfl⟩:=ry
 obtain ⟨its,r,pl,hz⟩:=I.tuple hq
 obtain ⟨j,h1,h2,h3,h4,h5⟩:=atI_get he
 obtain ⟨w,ew,rw'⟩:=r.get h2
 have hl:=r.length
 have hn:=line63
 have fin:EP X pins σ Q w s:=⟨z,H,I,rw',q⟩
 exact subscriptTail_builtinR (x:=w) pl.typeIs slot_tuple_getitem.lookup
  (getItem_tuple (j:=j) (Q:=fun r s'=>r=w∧EP X pins σ Q r s') pl (by omega) (by omega) (by rw[List.size_toArray,← hl];exact h1) (by simpa using ew) ⟨rfl,fin⟩) hs
theorem mapSeq_set (its:List Value) (n j:Nat) (u:Value):Obj.mapSeq (·.setIfInBounds j u) { cls:=.type "list",data:=.seq its.toArray n }={ cls:=.type "list",data:=.seq (its.set j u).toArray n }:=by
 simp[Obj.mapSeq]
theorem Inv.lst {pins:List (Addr×Obj)} {σ:St} {H:Hp} {s:Shared} {p:Addr} {xs:List V} (I:Inv X pins σ H s) (h:H p=some (.lst xs)):
  ∃(its:List Value) (n:Nat),Vals xs its∧s.heap.get? p=some { cls:=.type "list",data:=.seq its.toArray n }∧xs.length≤sizeLine:=by
 obtain ⟨z,its,n,r,e⟩:=I.hok p _ h
 exact ⟨its,n,r,e,z⟩
theorem Inv.lstUpd {pins:List (Addr×Obj)} {σ:St} {H:Hp} {s:Shared} {p:Addr} {xs ys:List V} {its its':List Value} {n n':Nat} {f:Obj→Obj} (I:Inv X pins σ H s) (h:H p=some (.lst xs))
  (ho:s.heap.get? p=some { cls:=.type "list",data:=.seq its.toArray n }) (hf:f { cls:=.type "list",data:=.seq its.toArray n }={ cls:=.type "list",data:=.seq its'.toArray n' }) (r:Vals ys its') (hz:ys.length≤sizeLine) (t:Nat):
  Inv X pins σ (upd H p (.lst ys)) { s with heap:=s.heap.update p f,toks:=t }:=by
 have e:(s.heap.update p f).get? p=some { cls:=.type "list",data:=.seq its'.toArray n' }:=by
  rw[Heap.get?_update_self f ho (by rw[hf]<;>rfl),hf]
 refine I.write (x:=p) (e:=p) (by rw[h];trivial) (.inl rfl) (fun b u hb q=>(Heap.get?_update_other _ _ (Ne.symm hb)).trans q) ⟨_,e⟩ ?_
 exact ⟨hz,its',n',r,e⟩
def rSetL:V→V→V→Hp→(Hp→Prop)→Prop:=fun o i v H Q=>∃p xs k j,o=.ref p∧i=.int k∧H p=some (.lst xs)∧ixN xs.length k=some j∧Q (upd H p (.lst (xs.set j v)))
theorem set_list:PSet X rSetL:=by
 intro pins s σ H o i v ov iv u Q I ro ri rv h
 obtain ⟨p,xs,k,j,rfl,rfl,hp,hj,q⟩:=h
 cases ro
 obtain ⟨t,rfl⟩:=ri
 obtain ⟨its,n,r,ho,hz⟩:=I.lst hp
 obtain ⟨h1,h2,h3,h4⟩:=ixN_seq hj
 have hl:=r.length
 have hn:=line63
 have I':Inv X pins σ (upd H p (.lst (xs.set j v))) { s with heap:=s.heap.update p (Obj.mapSeq (·.setIfInBounds j u)) }:=
  I.lstUpd hp ho (mapSeq_set its n j u) (r.set rv j) (by rw[List.length_set];exact hz) s.toks
 by_cases h0:0≤k
 ·have hk:k.toNat=j:=by
   rw[seqIndex_of h0 h4] at h1
   exact Option.some.inj h1
  exact PySem.W.ki_setAt ho h0 (by omega) (by rw[List.size_toArray,← hl];exact h4) (by rw[hk];exact ⟨_,I',q⟩)
 ·have hk:(k+(its.toArray.size:Int)).toNat=j:=by
   rw[seqIndex_neg (by omega) h3] at h1
   rw[List.size_toArray,← hl]
   exact Option.some.inj h1
  exact PySem.W.ki_setBack ho (by omega) (by rw[List.size_toArray,← hl];exact h3) (by omega) (by rw[hk];exact ⟨_,I',q⟩)
theorem slice_bounds (lo hi:Option Int) (n:Nat):(sliceBounds lo hi none n).1=((HT.sIx n 0 lo:Nat):Int)∧(sliceBounds lo hi none n).2.1=((HT.sIx n n hi:Nat):Int)∧(sliceBounds lo hi none n).2.2=1:=by
 refine ⟨?_,?_,rfl⟩
 ·cases lo with
  | none=>simp[sliceBounds,HT.sIx]
  | some i=>
   simp only[sliceBounds,HT.sIx,Option.getD_none,show (1:Int)>0 by decide,if_true]
   by_cases h:i<0
   ·simp only[h,if_true]<;>omega
   ·simp only[h,if_false]<;>omega
 ·cases hi with
  | none=>simp[sliceBounds,HT.sIx]
  | some i=>
   simp only[sliceBounds,HT.sIx,Option.getD_none,show (1:Int)>0 by decide,if_true]
   by_cases h:i<0
   ·simp only[h,if_true]<;>omega
   ·simp only[h,if_false]<;>omega
theorem slicePick_cut (its:List Value) (lo hi:Option Int):slicePick its.toArray lo hi none=((its.drop (HT.sIx its.length 0 lo)).take (HT.sIx its.length its.length hi-HT.sIx its.length 0 lo)).toArray:=by
 obtain ⟨h1,h2,h3⟩:=slice_bounds lo hi its.toArray.size
 unfold slicePick
 rw[h1,h2,h3]
 simp only[sliceRange_one,pick_run,List.size_toArray]<;>rfl
def rSlL (K:PySem.W.Frag):V→Option Int→Option Int→Hp→VK→Prop:=fun x lo hi H Q=>∃a xs,x=.ref a∧SqL K H a xs∧∀p,H p=none→Q (.ref p) (upd H p (.lst (cutV xs lo hi)))
theorem sl_list:SlR X (rSlL X.K):=by
 intro pins s σ H x v vl vu lo hi sl Q I rx hs pl pu h
 obtain ⟨a,xs,rfl,hx,q⟩:=h
 cases rx
 obtain ⟨its,r,ht,hz⟩:=I.list hx
 have hlen:=r.length
 refine ⟨"list",_,slot_list_getitem.lookup,ht.isList.typeIs,?_⟩
 refine wpAny_getItem_list_slice ht.isList hs pl pu .none (by simp) ?_ (by rw[List.size_toArray]<;>omega)
 rw[slicePick_cut,← hlen]
 refine ⟨.ref s.heap.objs.size,_,I.laid (t':=s.toks) (o:=.lst (cutV xs lo hi)) (fun b ob q=>Heap.get?_push_of_some _ q) (Nat.le_refl _) ?_,rfl,q _ (I.hok.fresh (Nat.le_refl _))⟩
 exact ⟨Nat.le_trans (cutV_length xs lo hi) hz,_,0,(r.drop (HT.sIx xs.length 0 lo)).take (HT.sIx xs.length xs.length hi-HT.sIx xs.length 0 lo),Heap.get?_push_size _ rfl⟩
theorem call_len_seq:CallR X (.builtin "len") (fun xs H Q=>∃p ys,xs=[.ref p]∧(SqL X.K H p ys∨SqT X.K H p ys)∧Q (.int ys.length) H):=by
 intro pins s σ H xs us Q I r h
 obtain ⟨p,ys,rfl,hq,q⟩:=h
 obtain ⟨u,rfl,rx⟩:=vals1 r
 cases rx
 have hn:=line63
 rcases hq with hq|hq
 ·obtain ⟨its,r',pl,hz⟩:=I.list hq
  have hlen:=r'.length
  exact Calls.call_len_list pl.isList (by simp only[List.size_toArray]<;>omega) ⟨.int ys.length,H,I.tok _,⟨s.toks+1,by rw[List.size_toArray,hlen]⟩,q⟩
 ·obtain ⟨its,r',pl,hz⟩:=I.tuple hq
  have hlen:=r'.length
  exact len_tuple pl (by simp only[List.size_toArray]<;>omega) ⟨.int ys.length,H,I.tok _,⟨s.toks+1,by rw[List.size_toArray,hlen]⟩,q⟩
theorem call_list_of:CallR X (.type "list") (fun xs H Q=>∃p ys,xs=[.ref p]∧(SqL X.K H p ys∨SqT X.K H p ys)∧∀l,H l=none→Q (.ref l) (upd H l (.lst ys))):=by
 intro pins s σ H xs us Q I r h
 obtain ⟨p,ys,rfl,hq,q⟩:=h
 obtain ⟨u,rfl,rx⟩:=vals1 r
 cases rx
 have fin:∀(its:List Value),Vals ys its→ys.length≤sizeLine→∀(h':Heap) (c':Nat),(∀b o',s.heap.get? b=some o'→h'.get? b=some o')→
   h'.get? s.heap.objs.size=some { cls:=.type "list",dict:=none,data:=.seq its.toArray c',slots:=#[] }→EP X pins σ Q (.ref s.heap.objs.size) { s with heap:=h' }:=fun its r' hz h' c' kp e=>
  ⟨.ref s.heap.objs.size,_,I.laid (t':=s.toks) kp (Nat.le_refl _) (show ObjOk X.prog X.w _ h' _ (.lst ys) from ⟨hz,its,c',r',e⟩),rfl,q _ (I.hok.fresh (Nat.le_refl _))⟩
 rcases hq with hq|hq
 ·obtain ⟨its,r',pl,hz⟩:=I.list hq
  have hlen:=r'.length
  obtain ⟨o,ho,hc,n,hd⟩:=pl.isList
  exact call_list_seq p (.inl rfl) ho hc hd (fun h' c' kp e=>fin its r' hz h' c' kp e) (by simp only[List.size_toArray]<;>omega)
 ·obtain ⟨its,r',pl,hz⟩:=I.tuple hq
  have hlen:=r'.length
  obtain ⟨o,ho,hc,n,hd⟩:=pl
  exact call_list_seq p (.inr rfl) ho hc hd (fun h' c' kp e=>fin its r' hz h' c' kp e) (by simp only[List.size_toArray]<;>omega)
theorem call_tuple_of:CallR X (.type "tuple") (fun xs H Q=>∃p ys,xs=[.ref p]∧((SqL X.K H p ys∧∀l,H l=none→Q (.ref l) (upd H l (.tup ys)))∨(SqT X.K H p ys∧Q (.ref p) H))):=by
 intro pins s σ H xs us Q I r h
 obtain ⟨p,ys,rfl,h⟩:=h
 obtain ⟨u,rfl,rx⟩:=vals1 r
 cases rx
 rcases h with ⟨hq,q⟩|⟨hq,q⟩
 ·obtain ⟨its,r',pl,hz⟩:=I.list hq
  have hlen:=r'.length
  refine call_tuple_list pl.isList (fun h' kp=>?_) (by simp only[List.size_toArray]<;>omega)
  have I1:Inv X pins σ H { s with heap:=h' }:=I.kept (t':=s.toks) kp
  have I2:Inv X pins σ (upd H h'.objs.size (.tup ys)) { s with heap:=h'.push { cls:=.type "tuple",data:=.seq its.toArray } }:=
   I1.laid (t':=s.toks) (fun b o e=>Heap.get?_push_of_some _ e) (Nat.le_refl _) (show ObjOk X.prog X.w _ _ _ (.tup ys) from ⟨hz,its,r',IsTup.new _ _⟩)
  exact ⟨.ref h'.objs.size,_,I2,rfl,q _ (I1.hok.fresh (Nat.le_refl _))⟩
 ·obtain ⟨its,r',pl,hz⟩:=I.tuple hq
  exact call_tuple_same pl ⟨.ref p,H,I,rfl,q⟩
def tyV (K:PySem.W.Frag) (T:String) (x:V) (H:Hp):Prop:=match x with
 | .str _=>T="str"
 | .int _=>T="int"
 | .ref p=>(T="list"∧∃xs,SqL K H p xs)∨(T="tuple"∧∃o,K.lookup p=some o∧o.cls=.type "tuple"∧o.dict=none) ∨
   (T="dict"∧((∃kvs,H p=some (.dK kvs))∨∃kvs,H p=some (.dT kvs)))∨(T="set"∧∃S n,H p=some (.set S n))
 | _=>False
theorem tyV_is {pins:List (Addr×Obj)} {σ:St} {H:Hp} {s:Shared} {T:String} {x:V} {v:Value} (I:Inv X pins σ H s) (r:RelV x v) (ty:tyV X.K T x H):
  s.TypeIs v T∧∀a,v=.ref a→∃ob,s.heap.get? a=some ob∧ob.dict=none:=by
 cases x with
 | str z=>
  obtain ⟨t,rfl⟩:=r
  cases (show T="str" from ty)
  exact ⟨typeIs_str s z t,fun _ e=>nomatch e⟩
 | int i=>
  obtain ⟨t,rfl⟩:=r
  cases (show T="int" from ty)
  exact ⟨typeIs_int s i t,fun _ e=>nomatch e⟩
 | ref p=>
  cases r
  rcases ty with ⟨rfl,xs,hq⟩|⟨rfl,o,hk,hc,hd⟩|⟨rfl,hk⟩|⟨rfl,S,n,hk⟩
  ·obtain ⟨its,_,pl,_⟩:=I.list hq
   refine ⟨pl.isList.typeIs,fun a e=>?_⟩
   cases e
   obtain ⟨o,n,e,c,hd,_⟩:=pl
   exact ⟨o,e,hd⟩
  ·refine ⟨⟨o,I.kIn p o hk,hc⟩,fun a e=>?_⟩
   cases e
   exact ⟨o,I.kIn _ o hk,hd⟩
  ·have z:∃o,s.heap.get? p=some o∧o.ExactDict:=by
    rcases hk with ⟨kvs,hk⟩|⟨kvs,hk⟩
    ·obtain ⟨_,_,_,_,o,_,_,e,ex,_⟩:=I.hok p _ hk
     exact ⟨o,e,ex⟩
    ·obtain ⟨_,_,_,_,o,_,_,e,ex,_⟩:=I.hok p _ hk
     exact ⟨o,e,ex⟩
   obtain ⟨o,e,ex⟩:=z
   refine ⟨⟨o,e,ex.1⟩,fun a e2=>?_⟩
   cases e2
   exact ⟨o,e,ex.2.1⟩
  ·obtain ⟨o,_,_,_,e,ex,_⟩:=I.hok p _ hk
   refine ⟨⟨o,e,ex.1⟩,fun a e2=>?_⟩
   cases e2
   exact ⟨o,e,ex.2.1⟩
 | _=>exact False.elim ty
def tBM (K:PySem.W.Frag) (T:String) (r:V→List V→Hp→VK→Prop) (to:TE) (t:TA):TE:=fun σ H Q=>to σ H fun x H1=>tyV K T x H1∧t σ H1 fun xs H2=>r x xs H2 Q
variable {o e:Expr} {es:List Expr} {to:TE} {t:TA} {name:Str} {apos cpos:Pos} {T id:String} {r:V→List V→Hp→VK→Prop}
theorem pe_bm (pa:PlainAttrs T) (slot:Slot T name id) (hty:typeOf (.builtin id)=pure (.type "method_descriptor")) (hm:MtR X id r) (ho:PE X o to) (ha:PA X (e::es) t)
  (hbase:attributeBase o name X.env (eval o X.env)=eval o X.env:=by rfl)
  (hfew:((backTo cpos (starEach (e::es) X.env)).all (fun x=>!x.1)&&(backToKw cpos (keywordEach [] X.env)).all (fun x=>x.1.isSome)
   && decide ((e::es).length+([]:List Keyword).length+(if ([]:List Keyword).isEmpty then 0 else 1)<30))=true:=by rfl)
  (hline:(apos.endLine==cpos.line)=true:=by rfl) (hs:starEach (e::es) X.env=(false,eval e X.env)::starEach es X.env:=by rfl) (hplain:(backTo cpos (starEach es X.env)).any (·.1)=false:=by rfl):
  PE X (.Call (.Attribute o name apos) (e::es) [] cpos) (tBM X.K T r to t):=by
 intro pins s σ H Q I h
 refine wpAny_Call_method_late hbase hfew hline rfl (thn (ho pins s σ H _ I h) fun v s1 ⟨x,H1,I1,r1,ty,q1⟩=>?_)
 obtain ⟨h1,h2⟩:=tyV_is I1 r1 ty
 refine ⟨T,id,pa,slot,hty,h1,h2,?_⟩
 have hA:=ha cpos pins s1 σ H1 _ I1 q1
 rw[hs] at hA ⊢
 refine Calls.callWith_builtin (by show (false||(backTo cpos (starEach es X.env)).any (·.1))=false;rw[hplain]<;>rfl) (Calls.evalArgs_plain ?_)
 exact thn hA fun us s2 ⟨vs,H2,I2,r2,q2⟩=>hm pins s2 σ H2 x vs v us Q I2 r1 r2 q2
end
def MtM (X:Cx) (id:String) (r:V→List V→Hp→VK→Prop):Prop:=
 ∀(pins:List (Addr×Obj)) (s:Shared) (σ:St) (H:Hp) (x:V) (xs:List V) (v:Value) (us:List Value) (Q:VK),Inv X pins σ H s→RelV x v→Vals xs us→r x xs H Q→
  wpAny (model X.prog X.w) X.A (call (.builtin id) (v::us)) (EP X pins σ Q) X.xe s
theorem Vals.one:∀{x:V} {us:List Value},Vals [x] us→∃u,us=[u]∧RelV x u
 | _,_,.cons r .nil=>⟨_,rfl,r⟩
theorem Vals.rep {xs:List V} {us:List Value} (h:Vals xs us):∀k:Nat,Vals (List.replicate k xs).flatten (List.replicate k us).flatten
 | 0=>.nil
 | k+1=>by
  rw[List.replicate_succ,List.replicate_succ,List.flatten_cons,List.flatten_cons]
  exact Vals.append h (Vals.rep h k)
theorem foldl_rep (its:List Value):∀(k:Nat) (acc:List Value),
  List.foldl (fun x1 x2=>x1++x2) acc.toArray (List.replicate k its.toArray)=(acc++(List.replicate k its).flatten).toArray
 | 0,acc=>by simp
 | k+1,acc=>by
  have e:acc.toArray++its.toArray=(acc++its).toArray:=by simp
  have e2:(acc++its)++(List.replicate k its).flatten=acc++(List.replicate (k+1) its).flatten:=by
   rw[List.replicate_succ,List.flatten_cons,List.append_assoc]
  rw[← e2,← foldl_rep its k (acc++its),← e,List.replicate_succ,List.foldl_cons]
section
variable {X:Cx} {pins:List (Addr×Obj)} {σ:St} {H:Hp} {s:Shared} {l b:Addr} {xs ys zs:List V}
theorem Inv.lset {its its':List Value} {n:Nat} {f:Array Value→Array Value} {t':Nat} (I:Inv X pins σ H s) (hH:H l=some (.lst xs))
  (e:s.heap.get? l=some { cls:=.type "list",data:=.seq its.toArray n }) (hf:f its.toArray=its'.toArray) (hv:Vals ys its') (hz:ys.length≤sizeLine):
  Inv X pins σ (upd H l (.lst ys)) { s with heap:=s.heap.update l (Obj.mapSeq f),toks:=t' }:=by
 have q:=PySem.IsL.update e f
 rw[hf] at q
 refine I.write (x:=l) (e:=l) (by rw[hH];exact trivial) (.inl rfl) (fun b' u hb hu=>(Heap.get?_update_other s.heap (Obj.mapSeq f) (Ne.symm hb)).trans hu) ⟨_,q⟩ ?_
 exact ⟨hz,its',_,hv,q⟩
theorem Inv.lnew {its:List Value} {t':Nat} (I:Inv X pins σ H s) (hv:Vals ys its) (hz:ys.length≤sizeLine):
  Inv X pins σ (upd H s.heap.objs.size (.lst ys)) { s with heap:=s.heap.push { cls:=.type "list",data:=.seq its.toArray },toks:=t' }:=
 I.laid (fun _ _ q=>Heap.get?_push_of_some _ q) (Nat.le_refl _) ⟨hz,its,0,hv,Heap.get?_push_size _ rfl⟩
theorem Inv.fresh (I:Inv X pins σ H s):H s.heap.objs.size=none:=I.hok.fresh (Nat.le_refl _)
theorem Inv.lstM (I:Inv X pins σ H s) (hH:H l=some (.lst xs)):xs.length≤sizeLine∧∃(its:List Value) (n:Nat),Vals xs its∧xs.length=its.length∧s.heap.get? l=some { cls:=.type "list",data:=.seq its.toArray n }:=by
 obtain ⟨z,its,n,r,e⟩:=I.hok l _ hH
 exact ⟨z,its,n,r,r.length,e⟩
theorem notLongL {n:Nat} (h:n≤sizeLine):Builtin.List.listTooLong n=false:=by
 unfold Builtin.List.listTooLong
 exact decide_eq_false (by omega)
end
section
variable {X:Cx}
def rAppend:V→List V→Hp→VK→Prop:=fun x vs H Q=>∃l xs y,x=.ref l∧vs=[y]∧H l=some (.lst xs)∧xs.length<sizeLine∧Q .non (upd H l (.lst (xs++[y])))
theorem Yk:MtM X "list.append" rAppend:=by
 intro pins s σ H x vs v us Q I rx rv h
 obtain ⟨l,xs,y,rfl,rfl,hH,hz,q⟩:=h
 cases rx
 obtain ⟨u,rfl,ru⟩:=rv.one
 obtain ⟨z,its,n,r,hl,e⟩:=I.lstM hH
 refine call_meets F.slot_list_append ⟨_,e,rfl⟩ F.entry_list_append (F.args_list_append_2 _ _) (PySem.list_append l its.toArray n u (by rw[List.size_toArray];omega)) ⟨e,?_⟩
 refine ⟨.non,_,I.lset (its':=its++[u]) hH e (by simp) (r.append (.cons ru .nil)) ?_,rfl,q⟩
 rw[List.length_append,List.length_singleton]
 omega
def rExtend:V→List V→Hp→VK→Prop:=fun x vs H Q=>∃l b xs zs,x=.ref l∧vs=[.ref b]∧H l=some (.lst xs)∧H b=some (.lst zs)∧xs.length+zs.length≤sizeLine∧Q .non (upd H l (.lst (xs++zs)))
theorem J2:MtM X "list.extend" rExtend:=by
 intro pins s σ H x vs v us Q I rx rv h
 obtain ⟨l,b,xs,zs,rfl,rfl,hH,hB,hz,q⟩:=h
 cases rx
 obtain ⟨u,rfl,ru⟩:=rv.one
 cases ru
 obtain ⟨z,its,n,r,hl,e⟩:=I.lstM hH
 obtain ⟨z2,its2,n2,r2,hl2,e2⟩:=I.lstM hB
 have hsz:its.toArray.size+its2.toArray.size≤sizeLine:=by rw[List.size_toArray,List.size_toArray];omega
 have hlong:¬ (!its.toArray.isEmpty&&Builtin.List.listTooLong (its.toArray.size+its2.toArray.size))=true:=by
  rw[notLongL hsz,Bool.and_false]
  exact Bool.false_ne_true
 refine call_meets F.slot_list_extend ⟨_,e,rfl⟩ F.entry_list_extend (F.args_list_extend_2 _ _)
  (AutoSeq1.list_extend_list_list_0 l its.toArray n b its2.toArray n2 hlong (by rw[List.size_toArray];omega) (by omega)) ⟨e,e2,?_⟩
 refine ⟨.non,_,I.lset (its':=its++its2) hH e (by simp) (r.append r2) ?_,rfl,q⟩
 rw[List.length_append]
 omega
def rCat:R2:=fun x y H Q=>∃l b xs zs,x=.ref l∧y=.ref b∧H l=some (.lst xs)∧H b=some (.lst zs)∧xs.length+zs.length≤sizeLine∧∀p,H p=none→Q (.ref p) (upd H p (.lst (xs++zs)))
theorem Yl:OpR X (binaryOp .Add) rCat:=by
 intro pins s σ H x y v u Q I rx ry h
 obtain ⟨l,b,xs,zs,rfl,rfl,hH,hB,hz,q⟩:=h
 cases rx
 cases ry
 obtain ⟨z,its,n,r,hl,e⟩:=I.lstM hH
 obtain ⟨z2,its2,n2,r2,hl2,e2⟩:=I.lstM hB
 refine PySem.P.add_list e e2 ?_ (by rw[List.size_toArray,List.size_toArray];omega)
 have ea:its.toArray++its2.toArray=(its++its2).toArray:=by simp
 rw[ea]
 exact ⟨.ref _,_,I.lnew (t':=s.toks) (r.append r2) (by rw[List.length_append];omega),rfl,q _ I.fresh⟩
def rRep:R2:=fun x y H Q=>∃l k xs,x=.ref l∧y=.int k∧H l=some (.lst xs)∧-(2^63)≤k∧k<2^63∧xs.length*k.toNat≤sizeLine ∧
 ∀p,H p=none→Q (.ref p) (upd H p (.lst (List.replicate k.toNat xs).flatten))
theorem len_rep {α:Type} (xs:List α) (k:Nat):(List.replicate k xs).flatten.length=k*xs.length:=by
 induction k with
 | zero=>simp
 | succ k ih=>rw[List.replicate_succ,List.flatten_cons,List.length_append,ih,Nat.succ_mul,Nat.add_comm]
theorem op_rep:OpR X (binaryOp .Mult) rRep:=by
 intro pins s σ H x y v u Q I rx ry h
 obtain ⟨l,k,xs,rfl,rfl,hH,h1,h2,hz,q⟩:=h
 cases rx
 obtain ⟨t,rfl⟩:=ry
 obtain ⟨z,its,n,r,hl,e⟩:=I.lstM hH
 have hlen:its.toArray.size*k.toNat≤sizeLine:=by rw[List.size_toArray,← hl];exact hz
 have hcap:¬ its.toArray.size*k.toNat>(2^63-1)/8:=by
  have:(sizeLine:Nat)≤(2^63-1)/8:=by decide
  omega
 have hfit:¬ (!Builtin.List.listFitsIndex k)=true:=by
  rw[fitsIndex_both h1 h2]
  exact Bool.false_ne_true
 have hlong:¬ Builtin.List.listTooLong (its.toArray.size*k.toNat)=true:=by
  rw[notLongL hlen]
  exact Bool.false_ne_true
 have hnew:List.foldl (fun x1 x2=>x1++x2) #[] (List.replicate (if its.toArray.isEmpty=true then 0 else k.toNat) its.toArray)=(List.replicate k.toNat its).flatten.toArray:=by
  have f0:∀m:Nat,List.foldl (fun x1 x2=>x1++x2) #[] (List.replicate m its.toArray)=(List.replicate m its).flatten.toArray:=fun m=>by
   have:=foldl_rep its m []
   rw[List.nil_append] at this
   exact this
  rw[f0]
  cases its with
  | nil=>simp
  | cons a r'=>rw[if_neg (by simp)]
 refine wpAny_binaryOp_repeat_ref (T:="list") (U:="int") (by decide) ⟨_,e,rfl⟩ (fun s'=>typeIs_int s' k t) noFill_list_mul F.fills_int_mul F.slot_int_rmul repeat_list F.slot_int_index.lookup
  (call_meets F.slot_int_rmul (typeIs_int s k t) F.entry_int_rmul (F.args_int_rmul_2 _ _) (int___rmul___int_list k t l its.toArray n)
   ⟨e,rfl,⟨_,e,rfl⟩,call_meets F.slot_list_mul ⟨_,e,rfl⟩ F.entry_list_mul (F.args_list_mul_2 _ _) (AutoListH.list___mul___list_int_3 l its.toArray n k t hfit hcap hlong) ⟨e,?_⟩⟩)
 rw[hnew]
 exact ⟨.ref _,_,I.lnew (t':=s.toks) (r.rep k.toNat) (by rw[len_rep,Nat.mul_comm];exact hz),rfl,q _ I.fresh⟩
end
section
variable {prog:Program} {w:World} {A:Around} {E:Value→Shared→Prop} {s:Shared}
set_option maxRecDepth 100000 in
end
section
variable {X:Cx}
end
theorem Vals.ints:∀{ns:List Int} {us:List Value},Vals (ns.map V.int) us→IntsAre us ns
 | [],us,h=>by
  rw[List.map_nil] at h
  cases h
  exact IntsAre.nil
 | n::ns,us,h=>by
  rw[List.map_cons] at h
  cases h with
  | cons r t=>
   obtain ⟨k,rfl⟩:=r
   exact IntsAre.cons n k (Vals.ints t)
theorem Vals.ref1 {a:Addr} {us:List Value} (r:Vals [V.ref a] us):us=[Value.ref a]:=by
 cases r with
 | cons r t=>
  cases t
  cases r
  rfl
section
variable {prog:Program} {w:World} {A:Around} {E:Value→Shared→Prop} {s:Shared} {l:Addr} {its:List Value} {ns:List Int} {Q:Value→Shared→Prop}
end
section
variable {X:Cx}
end
section
variable {X:Cx}
end
section
variable {X:Cx}
end
section
variable {X:Cx}
end
mutual
inductive Dp (K:PySem.W.Frag) (H:Hp):V→PyData→Prop
 | non:Dp K H .non .none
 | bl (b:Bool):Dp K H (.bl b) (.bool b)
 | int (i:Int):Dp K H (.int i) (.int i)
 | str (x:Str):Dp K H (.str x) (.str x)
 | lst {a:Addr} {xs:List V} {ds:List PyData}:SqL K H a xs→DpAll K H xs ds→Dp K H (.ref a) (.list ds)
 | tup {a:Addr} {xs:List V} {ds:List PyData}:SqT K H a xs→DpAll K H xs ds→Dp K H (.ref a) (.tuple ds)
inductive DpAll (K:PySem.W.Frag) (H:Hp):List V→List PyData→Prop
 | nil:DpAll K H [] []
 | cons {v:V} {vs:List V} {d:PyData} {ds:List PyData}:Dp K H v d→DpAll K H vs ds→DpAll K H (v::vs) (d::ds)
end
section
variable {X:Cx} {pins:List (Addr×Obj)} {σ:St} {H:Hp} {s:Shared}
mutual
theorem Dp.reads (I:Inv X pins σ H s):∀(d:PyData) (v:V) (u:Value),Dp X.K H v d→RelV v u→∃as,Reads s.heap u d as
 | .none,_,_,h,r=>by
  cases h
  cases r
  exact ⟨_,Reads.none⟩
 | .bool b,_,_,h,r=>by
  cases h
  cases r
  exact ⟨_,Reads.bool b⟩
 | .int i,_,_,h,r=>by
  cases h
  obtain ⟨t,rfl⟩:=r
  exact ⟨_,Reads.int i t⟩
 | .str x,_,_,h,r=>by
  cases h
  obtain ⟨t,rfl⟩:=r
  exact ⟨_,Reads.str x t⟩
 | .list ds,_,_,h,r=>by
  cases h with
  | lst hs ha=>
   cases r
   obtain ⟨its,rv,⟨o,n,ho,hc,_,hd⟩,_⟩:=I.list hs
   obtain ⟨as,hr⟩:=Dp.readsAll I ds _ its ha rv
   exact ⟨_,Reads.list ho hc hd hr⟩
 | .tuple ds,_,_,h,r=>by
  cases h with
  | tup hs ha=>
   cases r
   obtain ⟨its,rv,⟨o,ho,hc,n,hd⟩,_⟩:=I.tuple hs
   obtain ⟨as,hr⟩:=Dp.readsAll I ds _ its ha rv
   exact ⟨_,Reads.tuple ho hc hd hr⟩
 | .dict _,_,_,h,_=>by cases h
theorem Dp.readsAll (I:Inv X pins σ H s):∀(ds:List PyData) (vs:List V) (us:List Value),DpAll X.K H vs ds→Vals vs us→∃as,ReadsAll s.heap us ds as
 | [],_,_,h,r=>by
  cases h
  cases r
  exact ⟨_,ReadsAll.nil⟩
 | d::ds,_,_,h,r=>by
  cases h with
  | cons h1 h2=>
   cases r with
   | cons r1 r2=>
    obtain ⟨as,q1⟩:=Dp.reads I d _ _ h1 r1
    obtain ⟨bs,q2⟩:=Dp.readsAll I ds _ _ h2 r2
    exact ⟨_,ReadsAll.cons q1 q2⟩
end
end
section
variable {X:Cx}
def rEqD (K:PySem.W.Frag):R2:=fun x y H Q=>∃d e,Dp K H x d∧Dp K H y e∧SeqAt.shaped d=true∧SeqAt.shaped e=true∧Q (.bl (PyData.eqv d e)) H
def rNeD (K:PySem.W.Frag):R2:=fun x y H Q=>∃d e,Dp K H x d∧Dp K H y e∧SeqAt.shaped d=true∧SeqAt.shaped e=true∧Q (.bl (!PyData.eqv d e)) H
theorem op_eqD (hu:X.A.units+64<cLine):OpR X (compareOp .Eq) (rEqD X.K):=by
 intro pins s σ H x y v u Q I rx ry h
 obtain ⟨d,e,hd,he,sd,se,q⟩:=h
 obtain ⟨as,r1⟩:=Dp.reads I d x v hd rx
 obtain ⟨bs,r2⟩:=Dp.reads I e y u he ry
 exact SeqAt.compareEq_shaped r1 r2 sd se hu ⟨.bl _,H,I,rfl,q⟩
theorem op_neD (hu:X.A.units+64<cLine):OpR X (compareOp .NotEq) (rNeD X.K):=by
 intro pins s σ H x y v u Q I rx ry h
 obtain ⟨d,e,hd,he,sd,se,q⟩:=h
 obtain ⟨as,r1⟩:=Dp.reads I d x v hd rx
 obtain ⟨bs,r2⟩:=Dp.reads I e y u he ry
 exact SeqAt.compareNe_shaped r1 r2 sd se hu ⟨.bl _,H,I,rfl,q⟩
end
abbrev CellAt (h:Heap) (c:Addr) (v:Option Value):Prop:=h.IsCell c v
def relS (scope sc:Scope):Scope:=
 { scope with names:=scope.names.map fun (n,k)=>if (k==.free&&sc.kind==.function&&sc.names.lookup n==some .cell) then (n,.cell) else (n,k) }
def cloFrom (cells:List (Str×Addr)):List (Str×NameKind)→List (Str×Addr)→List (Str×Addr)
 | [],acc=>acc
 | (n,k)::r,acc=>if k==.free then cloFrom cells r ((n,(cells.lookup n).getD 0)::acc) else cloFrom cells r acc
theorem closure_loop (env:Env) (f:Str×NameKind→List (Str×Addr)→Sem (ForInStep (List (Str×Addr))))
  (hf:∀n k c,f (n,k) c=if k==.free then (do let a ← cellOf env n;pure (.yield ((n,a)::c))) else pure (.yield c)):
  ∀(names:List (Str×NameKind)) (acc:List (Str×Addr)),(∀y∈names,y.2=.free→∃c,env.cells.lookup y.1=some c)→forIn names acc f=pure (cloFrom env.cells names acc)
 | [],acc,_=>by rw[List.forIn_nil];rfl
 | (n,k)::r,acc,h=>by
  rw[List.forIn_cons,hf]
  have ih:=fun acc=>closure_loop env f hf r acc fun y hy=>h y (List.mem_cons_of_mem _ hy)
  unfold cloFrom
  by_cases hk:(k==NameKind.free)=true
  ·rw[if_pos hk,if_pos hk]
   obtain ⟨c,hc⟩:=h (n,k) List.mem_cons_self (by simpa using hk)
   have e:cellOf env n=pure c:=by unfold cellOf;rw[hc]
   rw[e]
   have e2:(env.cells.lookup n).getD 0=c:=by rw[hc];rfl
   rw[e2]
   exact ih _
  ·rw[if_neg hk,if_neg hk]
   exact ih _
theorem closure_ok {scope:Scope} {env:Env} (h:∀y∈scope.names,y.2=.free→∃c,env.cells.lookup y.1=some c):closureFor scope env=pure (cloFrom env.cells scope.names []):=by
 simp only[closureFor]
 rw[closure_loop env _ (fun n k c=>rfl) scope.names [] h]
 rfl
theorem mem_lookup {α:Type}:∀{l:List (Str×α)} {n:Str} {c:α},(n,c)∈l→∃c',l.lookup n=some c'
 | (k,v)::r,n,c,h=>by
  rw[List.lookup_cons]
  cases hb:n==k with
  | true=>exact ⟨_,rfl⟩
  | false=>
   rcases List.mem_cons.mp h with e|h
   ·cases e;simp at hb
   ·exact mem_lookup h
theorem cloFrom_mem {cells:List (Str×Addr)}:∀{names:List (Str×NameKind)} {acc:List (Str×Addr)} {n:Str} {c:Addr},(n,c)∈cloFrom cells names acc→(n,c)∈acc∨((n,.free)∈names∧c=(cells.lookup n).getD 0)
 | [],_,_,_,h=>.inl h
 | (m,k)::r,acc,n,c,h=>by
  unfold cloFrom at h
  split at h
  ·rename_i hk
   have hk:k=.free:=by simpa using hk
   rcases cloFrom_mem h with h|⟨h1,h2⟩
   ·rcases List.mem_cons.mp h with e|h
    ·cases e;exact .inr ⟨hk▸List.mem_cons_self,rfl⟩
    ·exact .inl h
   ·exact .inr ⟨List.mem_cons_of_mem _ h1,h2⟩
  ·rcases cloFrom_mem h with h|⟨h1,h2⟩
   ·exact .inl h
   ·exact .inr ⟨List.mem_cons_of_mem _ h1,h2⟩
theorem cloFrom_acc {cells:List (Str×Addr)}:∀{names:List (Str×NameKind)} {acc:List (Str×Addr)} {p:Str×Addr},p∈acc→p∈cloFrom cells names acc
 | [],_,_,h=>h
 | (m,k)::r,acc,p,h=>by
  unfold cloFrom
  split
  ·exact cloFrom_acc (List.mem_cons_of_mem _ h)
  ·exact cloFrom_acc h
theorem cloFrom_has {cells:List (Str×Addr)}:∀{names:List (Str×NameKind)} {acc:List (Str×Addr)} {n:Str},(n,.free)∈names→(n,(cells.lookup n).getD 0)∈cloFrom cells names acc
 | (m,k)::r,acc,n,h=>by
  unfold cloFrom
  rcases List.mem_cons.mp h with e|h
  ·cases e
   exact cloFrom_acc List.mem_cons_self
  ·split
   ·exact cloFrom_has h
   ·exact cloFrom_has h
theorem cells_mem:∀{names:List (Str×NameKind)} {h:Heap} {acc:List (Str×Addr)} {x:Str} {c:Addr},(x,c)∈cellsFrom h.objs.size names acc→
  (x,c)∈acc∨((x,.cell)∈names∧h.objs.size≤c∧CellAt (pushCells h names) c none)
 | [],_,_,_,_,h=>.inl h
 | (n,k)::r,h,acc,x,c,hm=>by
  unfold cellsFrom at hm
  unfold pushCells
  split at hm
  ·rename_i hk
   rw[if_pos hk]
   have hk:k=.cell:=by simpa using hk
   rw[← Heap.size_push h { cls:=.type "cell",data:=.cell none }] at hm
   rcases cells_mem hm with hm|⟨h1,h2,h3⟩
   ·rcases List.mem_cons.mp hm with e|hm
    ·cases e
     exact .inr ⟨hk▸List.mem_cons_self,Nat.le_refl _,_,pushCells_keeps r _ _ _ (Heap.get?_push_size _ rfl),rfl⟩
    ·exact .inl hm
   ·rw[Heap.size_push] at h2
    exact .inr ⟨List.mem_cons_of_mem _ h1,Nat.le_of_succ_le h2,h3⟩
  ·rename_i hk
   rw[if_neg hk]
   rcases cells_mem hm with hm|⟨h1,h2,h3⟩
   ·exact .inl hm
   ·exact .inr ⟨List.mem_cons_of_mem _ h1,h2,h3⟩
theorem cells_acc:∀{names:List (Str×NameKind)} {n:Nat} {acc:List (Str×Addr)} {p:Str×Addr},p∈acc→p∈cellsFrom n names acc
 | [],_,_,_,h=>h
 | (m,k)::r,n,acc,p,h=>by
  unfold cellsFrom
  split
  ·exact cells_acc (List.mem_cons_of_mem _ h)
  ·exact cells_acc h
theorem cells_has:∀{names:List (Str×NameKind)} {n:Nat} {acc:List (Str×Addr)} {x:Str},(x,.cell)∈names→∃c,(x,c)∈cellsFrom n names acc
 | (m,k)::r,n,acc,x,h=>by
  unfold cellsFrom
  rcases List.mem_cons.mp h with e|h
  ·cases e
   exact ⟨n,cells_acc List.mem_cons_self⟩
  ·split
   ·exact cells_has h
   ·exact cells_has h
theorem cells_inj:∀{names:List (Str×NameKind)} {h:Heap} {acc:List (Str×Addr)} {x y:Str} {c:Addr},(∀p∈acc,p.2<h.objs.size)→(∀x y c,(x,c)∈acc→(y,c)∈acc→x=y)→
  (x,c)∈cellsFrom h.objs.size names acc→(y,c)∈cellsFrom h.objs.size names acc→x=y
 | [],_,_,_,_,_,_,hi,h1,h2=>hi _ _ _ h1 h2
 | (n,k)::r,h,acc,x,y,c,hl,hi,h1,h2=>by
  unfold cellsFrom at h1 h2
  split at h1
  ·rename_i hk
   rw[if_pos hk] at h2
   rw[← Heap.size_push h { cls:=.type "cell",data:=.cell none }] at h1 h2
   refine cells_inj (h:=h.push _) (fun p hp=>?_) (fun x y c a b=>?_) h1 h2
   ·rw[Heap.size_push]
    rcases List.mem_cons.mp hp with rfl|hp
    ·exact Nat.lt_succ_self _
    ·exact Nat.lt_succ_of_lt (hl p hp)
   ·rcases List.mem_cons.mp a with e|a<;>rcases List.mem_cons.mp b with e'|b
    ·cases e;cases e';rfl
    ·cases e;exact absurd (hl _ b) (Nat.lt_irrefl _)
    ·cases e';exact absurd (hl _ a) (Nat.lt_irrefl _)
    ·exact hi _ _ _ a b
  ·rename_i hk
   rw[if_neg hk] at h2
   exact cells_inj hl hi h1 h2
theorem newEnv_comp {M:Model} {A:Around} {E:Value→Shared→Prop} {s:Shared} {scope:Scope} {globals:Addr} {closure:List (Str×Addr)} {qual:Str} {func:Option Addr} {code:Value} {around:Env} {builtins:Addr} {Q:Env→Shared→Prop}
  (h:Q (newEnv scope s.heap.objs.size globals (cellsFrom (s.heap.objs.size+1) scope.names closure) qual func code (some around) builtins)
   { s with heap:=pushCells (s.heap.push { cls:=.type "dict",data:=.dict #[] }) scope.names }):
  wpAny M A (newFunctionEnv scope globals closure [] qual func code (some around) builtins) Q E s:=by
 simp only[newFunctionEnv,Option.isSome_some,if_true]
 refine wpAny_bind (wpAny_alloc ?_)
 refine wpAny_bind (wpAny_layCells _ (fun n k c=>rfl) scope.names closure _ _ ?_)
 rw[show ({ s with heap:=s.heap.push { cls:=.type "dict",data:=.dict #[] } }:Shared).heap.objs.size=s.heap.objs.size+1 from Heap.size_push ..]
 rw[List.forIn_nil]
 exact wpAny_bind (wpAny_pure (wpAny_pure h))
theorem lookup_relS {sc:Scope}:∀{names:List (Str×NameKind)} {x:Str} {k:NameKind},
  (names.map fun (n,k)=>if (k==NameKind.free&&sc.kind==.function&&sc.names.lookup n==some .cell) then (n,NameKind.cell) else (n,k)).lookup x=some k→
  ∃k',names.lookup x=some k'∧(k=k'∨(k'=.free∧k=.cell))
 | [],_,_,h=>by simp at h
 | (n,k₀)::r,x,k,h=>by
  have ih:=@lookup_relS sc r x k
  have h':List.lookup x ((if (k₀==NameKind.free&&sc.kind==.function&&sc.names.lookup n==some .cell)=true then (n,NameKind.cell) else (n,k₀))::(r.map _))=some k:=h
  cases hx:x==n with
  | true=>
   simp only[List.lookup_cons,hx]
   by_cases hc:(k₀==NameKind.free&&sc.kind==.function&&sc.names.lookup n==some .cell)=true
   ·rw[if_pos hc] at h'
    simp only[List.lookup_cons,hx] at h'
    cases h'
    simp only[Bool.and_eq_true,beq_iff_eq] at hc
    exact ⟨k₀,rfl,.inr ⟨hc.1.1,rfl⟩⟩
   ·rw[if_neg hc] at h'
    simp only[List.lookup_cons,hx] at h'
    cases h'
    exact ⟨_,rfl,.inl rfl⟩
  | false=>
   simp only[List.lookup_cons,hx]
   by_cases hc:(k₀==NameKind.free&&sc.kind==.function&&sc.names.lookup n==some .cell)=true
   ·rw[if_pos hc] at h'
    simp only[List.lookup_cons,hx] at h'
    exact ih h'
   ·rw[if_neg hc] at h'
    simp only[List.lookup_cons,hx] at h'
    exact ih h'
structure BlkOk (N:List Str) (sc scope:Scope) (own:List (Str×Nat)):Prop where
 kind:scope.kind=.function
 uniq:∀y∈scope.names,scope.names.lookup y.1=some y.2
 ix:∀p∈own,N[p.2]?=some p.1
 free:∀y∈scope.names,y.2=.free→sc.names.lookup y.1=some .cell∨sc.names.lookup y.1=some .free
 own:∀y∈scope.names,y.2=.local∨y.2=.cell→y.1∈own.map (·.1)∨y.1∉N
def wipe (σ:St):List Nat→St
 | []=>σ
 | v::vs=>(wipe σ vs).set v none
theorem wipe_length (σ:St):∀vs:List Nat,(wipe σ vs).length=σ.length
 | []=>rfl
 | v::vs=>by unfold wipe;rw[List.length_set,wipe_length σ vs]
theorem wipe_some {σ:St} {i:Nat} {x:V}:∀{vs:List Nat},(wipe σ vs)[i]?=some (some x)→σ[i]?=some (some x)∧i∉vs
 | [],h=>⟨h,by simp⟩
 | v::vs,h=>by
  unfold wipe at h
  by_cases hi:v=i
  ·subst hi
   by_cases hv:v<(wipe σ vs).length
   ·rw[List.getElem?_set_self hv] at h;cases h
   ·rw[List.getElem?_eq_none (by simpa using hv)] at h;cases h
  ·rw[List.getElem?_set_ne hi] at h
   obtain ⟨h1,h2⟩:=wipe_some h
   exact ⟨h1,by simp only[List.mem_cons,not_or];exact ⟨fun e=>hi e.symm,h2⟩⟩
abbrev Cx.blk (X:Cx) (s:Shared) (H:Hp) (scope:Scope) (cenv:Env) (fp:List Addr):Cx:={ X with s_0:=s,H_0:=H,env:=cenv,outer:=X.stack,ex:=fp,fn:=fun x=>scope.names.lookup x==some .cell,pn:=[],xe:=fun _ _=>False }
section
variable {X:Cx} {pins:List (Addr×Obj)} {σ:St} {H:Hp} {s:Shared}
theorem block_start {scope:Scope} {own:List (Str×Nat)} {fp:List Addr} (I:Inv X pins σ H s) (ok:BlkOk X.N X.env.scope scope own) (hN:X.N.Nodup) (hfp:∀b∈fp,FpOk X pins H b∧b<s.heap.objs.size):
  Inv (X.blk s H scope (compEnvC scope (cellsFrom (s.heap.objs.size+1) scope.names (cloFrom X.env.cells scope.names [])) s.heap.objs.size X.env) fp) [] (wipe σ (own.map (·.2))) H { s with heap:=pushCells (s.heap.push { cls:=.type "dict",data:=.dict #[] }) scope.names }:=by
 have hfree:∀y∈scope.names,y.2=.free→∃c,X.env.cells.lookup y.1=some c:=fun y hy e=>by
  rcases ok.free y hy e with k|k
  ·exact I.ok.has _ (.inl k)
  ·exact I.ok.has _ (.inr k)
 generalize hcenv:compEnvC scope (cellsFrom (s.heap.objs.size+1) scope.names (cloFrom X.env.cells scope.names [])) s.heap.objs.size X.env=cenv
 have kp:∀b o,s.heap.get? b=some o→(pushCells (s.heap.push { cls:=.type "dict",data:=.dict #[] }) scope.names).get? b=some o:=fun b o e=>pushCells_keeps _ _ _ _ (Heap.get?_push_of_some _ e)
 have hL:cenv.locals=s.heap.objs.size:=by rw[← hcenv];rfl
 have hcl:cenv.cells=cellsFrom (s.heap.objs.size+1) scope.names (cloFrom X.env.cells scope.names []):=by rw[← hcenv];rfl
 have hsc:cenv.scope=relS scope X.env.scope:=by rw[← hcenv];rfl
 rw[← Heap.size_push s.heap { cls:=.type "dict",data:=.dict #[] }] at hcl
 have cm:∀{y c},(y,c)∈cloFrom X.env.cells scope.names []→X.env.cells.lookup y=some c∧c<s.heap.objs.size:=fun {y c} hm=>by
  rcases cloFrom_mem hm with hm|⟨h1,rfl⟩
  ·cases hm
  ·obtain ⟨c,hc⟩:=hfree _ h1 rfl
   rw[hc]
   obtain ⟨w,z⟩:=I.cell _ _ hc
   exact ⟨rfl,z.lt⟩
 have mem:∀{y c},cenv.cells.lookup y=some c→(X.env.cells.lookup y=some c∧c<s.heap.objs.size)∨(s.heap.objs.size+1≤c∧CellAt (pushCells (s.heap.push { cls:=.type "dict",data:=.dict #[] }) scope.names) c none):=fun {y c} e=>by
  rw[hcl] at e
  rcases cells_mem (PySem.mem_of_lookup e) with hm|⟨_,h2,h3⟩
  ·exact .inl (cm hm)
  ·rw[Heap.size_push] at h2;exact .inr ⟨h2,h3⟩
 have look:∀{y},scope.names.lookup y=some .free→∃c,cenv.cells.lookup y=some c∧X.env.cells.lookup y=some c:=fun {y} hl=>by
  have hy:(y,NameKind.free)∈scope.names:=PySem.mem_of_lookup hl
  obtain ⟨c',e'⟩:=mem_lookup (cells_acc (names:=scope.names) (n:=(s.heap.push { cls:=.type "dict",data:=.dict #[] }).objs.size) (cloFrom_has (cells:=X.env.cells) (acc:=[]) hy))
  rw[← hcl] at e'
  refine ⟨c',e',?_⟩
  rw[hcl] at e'
  rcases cells_mem (PySem.mem_of_lookup e') with hm|⟨h1,_,_⟩
  ·exact (cm hm).1
  ·have:=ok.uniq _ h1
   rw[hl] at this;cases this
 have okB:(X.blk s H scope cenv fp).Ok:=by
  refine ⟨I.ok.mod,by show cenv.scope.kind=_;rw[hsc];exact ok.kind,by show cenv.globals=_;rw[← hcenv];exact I.ok.glob,by show cenv.builtins=_;rw[← hcenv];exact I.ok.blt,by show s.heap.objs.size≤cenv.locals;rw[hL];exact Nat.le_refl _,
   fun y z c e1 e2=>?_,fun y hy=>?_,fun y c z e=>?_,I.ok.hd,I.ok.frames,.inl rfl,fun b hb=>⟨?_,fun y c e z=>?_⟩,I.bs,Nat.le_trans I.ok.bsz I.sz,fun b o e hb=>?_,fun b hb z=>?_,I.stack,I.stkFree⟩
  ·have e1:cenv.cells.lookup y=some c:=e1
   have e2:cenv.cells.lookup z=some c:=e2
   rw[hcl] at e1 e2
   refine cells_inj (fun p hp=>?_) (fun y z c a b=>I.ok.inj y z c (cm a).1 (cm b).1) (PySem.mem_of_lookup e1) (PySem.mem_of_lookup e2)
   rw[Heap.size_push]
   exact Nat.lt_succ_of_lt (cm (y:=p.1) (c:=p.2) hp).2
  ·show ∃c,cenv.cells.lookup y=some c
   have key:∀k,cenv.kindOf y=some k→(k=.cell∨k=.free)→∃c,cenv.cells.lookup y=some c:=fun k hk hk'=>by
    unfold Env.kindOf at hk
    rw[hsc] at hk
    obtain ⟨k',e,r⟩:=lookup_relS hk
    have:k'=.cell∨k'=.free:=by
     rcases r with rfl|⟨rfl,_⟩
     ·exact hk'
     ·exact .inr rfl
    rcases this with rfl|rfl
    ·obtain ⟨c,hm⟩:=cells_has (n:=(s.heap.push { cls:=.type "dict",data:=.dict #[] }).objs.size) (acc:=cloFrom X.env.cells scope.names []) (PySem.mem_of_lookup e)
     obtain ⟨c',e'⟩:=mem_lookup hm
     exact ⟨c',by rw[hcl];exact e'⟩
    ·obtain ⟨c,h1,_⟩:=look e
     exact ⟨c,h1⟩
   rcases hy with hy|hy
   ·exact key _ hy (.inl rfl)
   ·exact key _ hy (.inr rfl)
  ·have z:(scope.names.lookup y==some NameKind.cell)=true:=z
   have z:scope.names.lookup y=some .cell:=by simpa using z
   have e:cenv.cells.lookup y=some c:=e
   rw[hcl] at e
   rcases cells_mem (PySem.mem_of_lookup e) with hm|⟨_,h2,_⟩
   ·rcases cloFrom_mem hm with hm|⟨h1,_⟩
    ·cases hm
    ·have q:=ok.uniq _ h1
     rw[z] at q;cases q
   ·rw[Heap.size_push] at h2
    exact Nat.le_of_succ_le h2
  ·show b≠cenv.locals
   rw[hL];exact Nat.ne_of_lt (hfp b hb).2
  ·have e:cenv.cells.lookup y=some c:=e
   rcases mem e with ⟨h1,_⟩|⟨h1,_⟩
   ·exact (hfp b hb).1.2.2.2.2.1 y c h1 z
   ·have h2:s.heap.objs.size+1≤b:=by rw[← z];exact h1
    exact absurd (Nat.lt_of_lt_of_le (hfp b hb).2 (Nat.le_of_succ_le h2)) (Nat.lt_irrefl _)
  ·rcases (hfp b hb).1.2.2.2.1 with z|z
   ·exact I.ok.noex b o e z
   ·exact absurd (Nat.lt_of_lt_of_le (Heap.lt_size e) (Nat.le_trans I.ok.bsz z)) (Nat.lt_irrefl _)
  ·rcases List.mem_cons.mp (I.stkSub b z) with z|z
   ·exact (hfp b hb).1.2.1 z
   ·exact (hfp b hb).1.2.2.1 z
 refine ⟨okB,rfl,I.bare,Un.kept kp,⟨fun _=>none,?_,fun i y av e1 e2 e3=>?_⟩,fun y c e=>?_,?_,fun y c e=>?_,fun p hp=>?_,I.hok.kept kp,by rw[wipe_length];exact I.len⟩
 ·show Heap.Ns _ cenv.locals _
  rw[hL]
  exact Heap.Ns.keeps (Heap.Ns.new ..) fun b o e=>pushCells_keeps _ _ _ _ e
 ·obtain ⟨e2,hne⟩:=wipe_some e2
  have hfr:scope.names.lookup y=some .free∧(cenv.kindOf y=some .cell∨cenv.kindOf y=some .free):=by
   have key:∀k,cenv.scope.names.lookup y=some k→k=.local∨k=.cell∨k=.free→scope.names.lookup y=some .free∧(cenv.kindOf y=some .cell∨cenv.kindOf y=some .free):=fun k hk hk'=>by
    have hk0:=hk
    rw[hsc] at hk
    obtain ⟨k',e,r⟩:=lookup_relS hk
    have no:¬ (k'=.local∨k'=.cell):=fun hh=>by
     rcases ok.own _ (PySem.mem_of_lookup e) hh with e'|e'
     ·obtain ⟨p,hp,hpy⟩:=List.mem_map.mp e'
      have e3:=ok.ix p hp
      have:p.1=y:=hpy
      rw[this] at e3
      exact hne (List.mem_map.mpr ⟨p,hp,nodup_ix hN e3 e1⟩)
     ·exact e' (List.mem_of_getElem? e1)
    rcases r with rfl|⟨rfl,rfl⟩
    ·rcases hk' with rfl|rfl|rfl
     ·exact absurd (.inl rfl) no
     ·exact absurd (.inr rfl) no
     ·exact ⟨e,.inr hk0⟩
    ·exact ⟨e,.inl hk0⟩
   have e3:Vis cenv.scope y:=e3
   rcases e3 with e3|e3|e3
   ·exact key _ e3 (.inl rfl)
   ·exact key _ e3 (.inr (.inl rfl))
   ·exact key _ e3 (.inr (.inr rfl))
  obtain ⟨m,hn,hl⟩:=I.loc
  have hvis:Vis X.env.scope y:=(ok.free _ (PySem.mem_of_lookup hfr.1) rfl).elim (fun k=>.inr (.inl k)) (fun k=>.inr (.inr k))
  obtain ⟨w,r,q⟩:=hl i y av e1 e2 hvis
  refine ⟨w,r,.inr ⟨hfr.2,?_⟩⟩
  obtain ⟨c,h1,h2⟩:=look hfr.1
  rcases q with ⟨k,_⟩|⟨_,c',e',z⟩
  ·have k:X.env.scope.names.lookup y=some .local:=k
   rcases ok.free _ (PySem.mem_of_lookup hfr.1) rfl with k'|k'<;>rw[show X.env.scope.names.lookup y=_ from k'] at k<;>cases k
  ·rw[h2] at e';cases e'
   exact ⟨c,h1,z.keeps kp⟩
 ·have e:cenv.cells.lookup y=some c:=e
  rcases mem e with ⟨h1,_⟩|⟨_,z⟩
  ·obtain ⟨w,z⟩:=I.cell y c h1
   exact ⟨w,z.keeps kp⟩
  ·exact ⟨_,z⟩
 ·show H cenv.locals=none
  rw[hL];exact I.hok.fresh (Nat.le_refl _)
 ·have e:cenv.cells.lookup y=some c:=e
  rcases mem e with ⟨h1,_⟩|⟨h1,_⟩
  ·exact I.freeC y c h1
  ·exact I.hok.fresh (Nat.le_of_succ_le h1)
 ·exact absurd (show p∈([]:List (Addr×Obj))++[] from hp) (by simp)
theorem app_ok {E:Value→Shared→Prop} {D:Addr} {xs:List V} {y:V} {v:Value} {Q:Value→Shared→Prop} (I:Inv X pins σ H s) (hD:H D=some (.lst xs)) (hz:xs.length<sizeLine) (r:RelV y v)
  (h:∀s',Inv X pins σ (upd H D (.lst (xs++[y]))) s'→Q .none s'):wpAny (model X.prog X.w) X.A (call (.builtin "list.append") [.ref D,v]) Q E s:=by
 obtain ⟨hz',its,n,ri,e⟩:=I.hok D _ hD
 have hl:=ri.length
 refine append_at (hsz:=by rw[List.size_toArray];omega) e fun h' sb ho'=>?_
 refine h { s with heap:=h' } (I.write (t':=s.toks) (by rw[hD];trivial) (.inl rfl) (fun b u hb q=>(sb.2 b hb).trans q) ⟨_,ho'⟩ ⟨by rw[List.length_append];exact hz,its++[v],n+1,ri.append (.cons r .nil),?_⟩)
 rw[ho']
 simp
def PTs (X:Cx) (ifs:List Expr) (t:TT):Prop:=
 ∀(pins:List (Addr×Obj)) (s:Shared) (σ:St) (H:Hp) (Q:Bool→Hp→Prop),Inv X pins σ H s→t σ H Q→
  wpAny (model X.prog X.w) X.A (forIn ifs true fun c r=>if r=true then do let ok ← isTrue c X.env (eval c X.env);pure (ForInStep.yield ok) else pure (ForInStep.yield r)) (TP X pins σ Q) X.xe s
def tYes:TT:=fun _ H Q=>Q true H
theorem pts_nil:PTs X [] tYes:=fun _ _ _ H _ I h=>wpAny_tests_nil ⟨H,I,h⟩
theorem pts_one {c:Expr} {t:TT} (h:PT X c t):PTs X [c] t:=fun pins s σ H Q I hw=>wpAny_tests_one (h pins s σ H Q I hw)
end
theorem thnF {α:Type} {t:Sem α} {Q Q':α→Shared→Prop} {M:Model} {A:Around} {E:Value→Shared→Prop} {s:Shared} (h:wpAny M A t Q (fun _ _=>False) s) (hQ:∀a s,Q a s→Q' a s):wpAny M A t Q' E s:=wpAny_mono h hQ fun _ _ z=>False.elim z
theorem compLoop_any {prog:Program} {w:World} {A:Around} {R:Result→Shared→Prop} {s:Shared} {elt target iter:Expr} {ifs:List Expr} {scope:Scope} {pos:Pos} {it acc:Value} {env:Env} (I:Nat→Shared→Prop)
  (turn:∀n s,I n s→wpAny (model prog w) A (pyNext it) (fun r s₁=>match r with
   | none=>R (.ok .next) s₁
   | some v=>wpAny (model prog w) A (letOwnedTupleGo target it v) (fun _ s₁'=>wpAny (model prog w) A (assign target env v) (fun _ s₂=>
     wpAny (model prog w) A (forIn ifs true fun c r=>if r=true then do let ok ← isTrue c env (eval c env);pure (ForInStep.yield ok) else pure (ForInStep.yield r)) (fun ok s₃=>
      if ok=true then wpAny (model prog w) A (eval elt env) (fun x s₄=>
       wpAny (model prog w) A (call (.builtin "list.append") [acc,x]) (fun _ s₅=>∃m,m<n∧I m s₅) (notedBy (model prog w) A env fun e s'=>R (.error e) s') s₄) (notedBy (model prog w) A env fun e s'=>R (.error e) s') s₃
      else ∃m,m<n∧I m s₃) (notedBy (model prog w) A env fun e s'=>R (.error e) s') s₂) (notedBy (model prog w) A env fun e s'=>R (.error e) s') s₁') (notedBy (model prog w) A env fun e s'=>R (.error e) s') s₁) (notedBy (model prog w) A env fun e s'=>R (.error e) s') s)
  (n:Nat) (h:I n s):
  codeAny (model prog w) A (.compLoop (.ListComp elt [⟨target,iter,ifs,0⟩] scope pos) 0 it acc env) R s:=by
 refine codeAny_loop rfl I (fun n s hI=>?_) n h
 show wpAny _ A ((compTurn (.ListComp elt [⟨target,iter,ifs,0⟩] scope pos) 0 it acc env).onRaise (fun x=>do noteFrame x env;theTreesLotGoes x)) _ _ s
 refine wpAny_noted ?_
 rw[compTurn_list]
 refine wpAny_bind (wpAny_standAt (wpAny_bind (wpAny_mono (turn n s hI) (fun r s₁ h₁=>?_) fun _ _ h'=>h')))
 cases r with
 | none=>exact wpAny_pure h₁
 | some v=>
  refine wpAny_bind (wpAny_mono h₁ (fun _ s₁' h₁'=>?_) fun _ _ h'=>h')
  refine wpAny_bind (wpAny_mono h₁' (fun _ s₂ h₂=>wpAny_bind (wpAny_mono h₂ (fun ok s₃ h₃=>?_) fun _ _ h'=>h')) fun _ _ h'=>h')
  cases ok with
  | false=>exact wpAny_pure ⟨rfl,h₃⟩
  | true=>
   exact wpAny_bind (wpAny_bind (wpAny_mono h₃ (fun x s₄ h₄=>wpAny_bind (wpAny_mono h₄ (fun _ s₅ h₅=>wpAny_pure (wpAny_pure ⟨rfl,h₅⟩)) fun _ _ h'=>h')) fun _ _ h'=>h'))
section
variable {X:Cx}
def tLc (wi:TI) (g:TG) (tt:TT) (te:TE) (vs:List Nat):TE:=fun σ H Q=>wi σ H fun J H1=>∀D,H1 D=none→∃W:Nat→Nat→Hp→Prop,(∃m,W 0 m (upd H1 D (.lst [])))∧∀i m H,W i m H→
 (J.stop i H∧Q (.ref D) H)∨(J.go i H∧∃Nx:Hp→Prop,(∀H',Nx H'→∃m',m'<m∧W (i+1) m' H')∧∀x H',J.yld i H x H'→g x (wipe σ vs) H' fun σ2 H2=>wipe σ2 vs=wipe σ vs∧tt σ2 H2 fun b H3=>
  if b=true then te σ2 H3 fun y H4=>∃acc,H4 D=some (.lst acc)∧acc.length<sizeLine∧Nx (upd H4 D (.lst (acc++[y]))) else Nx H3)
theorem lc_core {pins:List (Addr×Obj)} {s:Shared} {σ:St} {H:Hp} {Q:VK} {elt tg iter:Expr} {ifs:List Expr} {scope:Scope} {own:List (Str×Nat)} {pos pos':Pos} {wi:TI} {g:TG} {tt:TT} {te:TE} {use:Option (Value→Sem Unit)} {Qf:Value→Shared→Prop}
  (hc:X.calm=true) (hN:X.N.Nodup) (I:Inv X pins σ H s) (hi:PI X tg iter wi) (ok:BlkOk X.N X.env.scope scope own)
  (hg:∀(s:Shared) (H:Hp) (C:Addr) (cl:List (Str×Addr)) (fp:List Addr),PG (X.blk s H scope (compEnvC scope cl C X.env) fp) tg g) (ht:∀(s:Shared) (H:Hp) (C:Addr) (cl:List (Str×Addr)) (fp:List Addr),PTs (X.blk s H scope (compEnvC scope cl C X.env) fp) ifs tt)
  (he:∀(s:Shared) (H:Hp) (C:Addr) (cl:List (Str×Addr)) (fp:List Addr),PE (X.blk s H scope (compEnvC scope cl C X.env) fp) elt te) (hs:∀x,foldedSetIterable iter X.env x=pure x)
  (h:tLc wi g tt te (own.map (·.2)) σ H Q)
  (hRR:∀D C s' m H',Inv X pins σ H' s'→Q (.ref D) H'→s'.heap.Ns C m→FpOk X pins H' C→compPost (model X.prog X.w) X.A X.xe use Qf (.ref D) C (.ok .next) s'):
  wpAny (model X.prog X.w) X.A (comprehension (.ListComp elt [⟨tg,iter,ifs,0⟩] scope pos) scope X.env pos' (newList []) false (eval iter X.env) use) Qf X.xe s:=by
 have hfree:∀y∈scope.names,y.2=.free→∃c,X.env.cells.lookup y.1=some c:=fun y hy e=>by
  rcases ok.free y hy e with k|k
  ·exact I.ok.has _ (.inl k)
  ·exact I.ok.has _ (.inr k)
 refine wpAny_comprehension_free (use:=use) rfl hs (closure_ok hfree) ok.kind (fun y hy e=>by rw[ok.uniq y hy,e])
  (thn (hi pins s σ H _ I h) fun xv s1 hx=>thn hx fun itv s2 h2=>?_)
 obtain ⟨it,fp,tn,J,H2,e,I2,T,st2,f2,q⟩:=h2
 subst e
 refine wpAny_newObj_type (newEnv_comp ?_) (by show 0≤sizeLine;decide)
 generalize hD:s2.heap.objs.size=D
 have hDn:H2 D=none:=I2.hok.fresh (Nat.le_of_eq hD)
 obtain ⟨W,⟨m0,w0⟩,turn⟩:=q D hDn
 -- the new list
 generalize hs3:({ s2 with heap:=s2.heap.push { cls:=.type "list",data:=.seq ([]:List Value).toArray } }:Shared)=s3
 have I3:Inv X pins σ (upd H2 D (.lst [])) s3:=by
  rw[← hs3]
  refine I2.laid (t':=s2.toks) (fun b o e=>Heap.get?_push_of_some _ e) (Nat.le_of_eq hD) ⟨Nat.zero_le _,[],0,.nil,?_⟩
  rw[← hD]
  exact Heap.get?_push_size _ rfl
 have h3:s3.heap=s2.heap.push { cls:=.type "list",data:=.seq ([]:List Value).toArray }:=by rw[← hs3]
 have sz:∀b∈fp,b<s2.heap.objs.size:=fun b hb=>by
  obtain ⟨o,e,_⟩:=T.obj _ _ st2 b hb
  exact Heap.lt_size e
 have f3:∀b∈fp,FpOk X pins (upd H2 D (.lst [])) b∧b<s3.heap.objs.size:=fun b hb=>by
  have hlt:=sz b hb
  refine ⟨⟨?_,(f2 b hb).2⟩,by rw[h3,Heap.size_push];exact Nat.lt_succ_of_lt hlt⟩
  rw[Zn (by rw[← hD];exact Nat.ne_of_lt hlt)]
  exact (f2 b hb).1
 have st3:tn 0 s3.heap:=T.keep _ _ _ st2 fun b _ o e=>by rw[h3];exact Heap.get?_push_of_some _ e
 have I4:=block_start I3 ok hN f3
 have pg:=hg s3 (upd H2 D (.lst [])) s3.heap.objs.size (cellsFrom (s3.heap.objs.size+1) scope.names (cloFrom X.env.cells scope.names [])) fp
 have pt:=ht s3 (upd H2 D (.lst [])) s3.heap.objs.size (cellsFrom (s3.heap.objs.size+1) scope.names (cloFrom X.env.cells scope.names [])) fp
 have pe:=he s3 (upd H2 D (.lst [])) s3.heap.objs.size (cellsFrom (s3.heap.objs.size+1) scope.names (cloFrom X.env.cells scope.names [])) fp
 show codeAny _ _ (.compStart (.ListComp elt [⟨tg,iter,ifs,0⟩] scope pos) 0 (.ref it) (.ref D) (compEnvC scope (cellsFrom (s3.heap.objs.size+1) scope.names (cloFrom X.env.cells scope.names [])) s3.heap.objs.size X.env)) (compPost (model X.prog X.w) X.A X.xe use Qf (.ref D) s3.heap.objs.size) { s3 with heap:=pushCells (s3.heap.push { cls:=.type "dict",data:=.dict #[] }) scope.names }
 have nfp:∀b∈fp,(upd H2 D (.lst [])) b=none:=fun b hb=>(f3 b hb).1.1
 generalize hce:compEnvC scope (cellsFrom (s3.heap.objs.size+1) scope.names (cloFrom X.env.cells scope.names [])) s3.heap.objs.size X.env=ce at I4 pg pt pe ⊢
 have cL:ce.locals=s3.heap.objs.size:=by subst hce;rfl
 generalize hH3:upd H2 D (.lst [])=H3 at I3 I4 pg pt pe w0 nfp f3
 generalize hs4:({ s3 with heap:=pushCells (s3.heap.push { cls:=.type "dict",data:=.dict #[] }) scope.names }:Shared)=s4 at I4 ⊢
 have st4:tn 0 s4.heap:=T.keep _ _ _ st3 fun b _ o e=>by rw[← hs4];exact pushCells_keeps _ _ _ _ (Heap.get?_push_of_some _ e)
 have stat:∀{σ':St} {H':Hp} {s':Shared},Inv (X.blk s3 H3 scope ce fp) [] σ' H' s'→(∀b∈fp,H' b=none)→∀b∈fp,FpOk (X.blk s3 H3 scope ce fp) [] H' b:=fun {σ' H' s'} I' hn b hb=>
  ⟨hn b hb,(I'.ok.exf b hb).1,I'.ok.exfs b hb,.inl hb,fun x c e=>(I'.ok.exf b hb).2 x c e,fun p hp=>absurd (show p∈([]:List (Addr×Obj))++[] from hp) (by simp)⟩
 have loop:codeAny (model X.prog X.w) X.A (.compLoop (.ListComp elt [⟨tg,iter,ifs,0⟩] scope pos) 0 (.ref it) (.ref D) ce) (compPost (model X.prog X.w) X.A X.xe use Qf (.ref D) s3.heap.objs.size) s4:=by
  refine compLoop_any (fun n s'=>∃i H',Inv (X.blk s3 H3 scope ce fp) [] (wipe σ (own.map (·.2))) H' s'∧tn i s'.heap∧(∀b∈fp,H' b=none)∧W i n H') ?_ m0 ⟨0,H3,I4,st4,nfp,w0⟩
  rintro n s5 ⟨i,H5,I5,st5,n5,w5⟩
  rcases turn i n H5 w5 with ⟨stop,qq⟩|⟨go,Nx,hNx,step⟩
  ·have td:=T.done (X.blk s3 H3 scope ce fp) rfl rfl rfl hc i [] s5 _ H5 (fun _ _=>False) I5 (stat I5 n5) st5 stop
   refine thnF td fun r s6 ⟨hr,I6⟩=>?_
   subst hr
   -- back in the def's context
   have I7:Inv X pins σ H5 s6:=I3.call' (ch:=fp) I6.os I6.base I6.hok I6.bare fun b hb=>⟨(f3 b hb).1.2.2.2.1,(f3 b hb).1.2.1,(f3 b hb).1.2.2.2.2.1,(f3 b hb).1.2.2.2.2.2⟩
   have nC:H5 s3.heap.objs.size=none:=by
    have z:H5 ce.locals=none:=I6.free
    rw[cL] at z
    exact z
   obtain ⟨m,hn,_⟩:=I6.loc
   have hn:s6.heap.Ns ce.locals m:=hn
   rw[cL] at hn
   exact hRR D s3.heap.objs.size s6 m H5 I7 qq hn (I3.fpOk (Nat.le_refl _) nC)
  ·have ti:=T.item (X.blk s3 H3 scope ce fp) rfl rfl rfl hc i [] s5 _ H5 (fun _ _=>False) I5 (stat I5 n5) st5 go
   refine thnF ti fun r s6 ⟨u,hr,h6⟩=>?_
   subst hr
   refine thnF h6 fun _ s7 ⟨x,H7,I7,r7,y7,st7,n7⟩=>?_
   have I7':=I7.pinned (stat I7 n7) (T.obj _ _ st7)
   refine thnF (pg _ s7 _ H7 x u _ I7' r7 (step x H7 y7)) fun _ s8 ⟨σ8,H8,I8,hw8,q8⟩=>?_
   refine thnF (pt _ s8 σ8 H8 _ I8 q8) fun b s9 ⟨H9,I9,q9⟩=>?_
   -- the turn's end
   have fin:∀{s':Shared} {H':Hp},Inv (X.blk s3 H3 scope ce fp) ([]++pinsAt fp s7.heap) σ8 H' s'→Nx H'→∃m,m<n∧∃i H',Inv (X.blk s3 H3 scope ce fp) [] (wipe σ (own.map (·.2))) H' s'∧tn i s'.heap∧(∀b∈fp,H' b=none)∧W i m H':=fun {s' H'} I' nx=>by
    obtain ⟨m',hm,w'⟩:=hNx H' nx
    have pin':∀b∈fp,∀o,s7.heap.get? b=some o→s'.heap.get? b=some o∧H' b=none:=fun b hb o e=>
     let z:=I'.pin (b,o) (List.mem_append_right _ (List.mem_append_right _ (mem_pinsAt hb e)))
     ⟨z.1,z.2.1⟩
    have hl:(wipe σ (own.map (·.2))).length=σ8.length:=by rw[← hw8,wipe_length]
    refine ⟨m',hm,i+1,H',(I'.unpinned (pins:=[])).weak hl (fun j v e=>?_),T.keep _ _ _ st7 fun b hb o e=>(pin' b hb o e).1,fun b hb=>?_,w'⟩
    ·rw[← hw8] at e
     exact (wipe_some e).1
    ·obtain ⟨o,e,_⟩:=T.obj _ _ st7 b hb
     exact (pin' b hb o e).2
   cases b with
   | false=>
    simp only[Bool.false_eq_true,if_false] at q9 ⊢
    exact fin I9 q9
   | true=>
    simp only[if_true] at q9 ⊢
    refine thnF (pe _ s9 σ8 H9 _ I9 q9) fun z s10 ⟨yv,H10,I10,r10,acc,hD10,hz10,nx⟩=>?_
    exact app_ok (X:=X.blk s3 H3 scope ce fp) I10 hD10 hz10 r10 fun s11 I11=>fin I11 nx
 exact codeAny_compStart_list loop (T.self X.A 0 _ _ _ st4 loop)
theorem pe_lc {elt tg iter:Expr} {ifs:List Expr} {scope:Scope} {own:List (Str×Nat)} {pos:Pos} {wi:TI} {g:TG} {tt:TT} {te:TE} (hc:X.calm=true) (hN:X.N.Nodup) (hi:PI X tg iter wi) (ok:BlkOk X.N X.env.scope scope own)
  (hg:∀(s:Shared) (H:Hp) (C:Addr) (cl:List (Str×Addr)) (fp:List Addr),PG (X.blk s H scope (compEnvC scope cl C X.env) fp) tg g) (ht:∀(s:Shared) (H:Hp) (C:Addr) (cl:List (Str×Addr)) (fp:List Addr),PTs (X.blk s H scope (compEnvC scope cl C X.env) fp) ifs tt)
  (he:∀(s:Shared) (H:Hp) (C:Addr) (cl:List (Str×Addr)) (fp:List Addr),PE (X.blk s H scope (compEnvC scope cl C X.env) fp) elt te) (hs:∀x,foldedSetIterable iter X.env x=pure x:=by intro _;rfl):
  PE X (.ListComp elt [⟨tg,iter,ifs,0⟩] scope pos) (tLc wi g tt te (own.map (·.2))):=by
 intro pins s σ H Q I h
 rw[eval_ListComp]
 refine lc_core hc hN I hi ok hg ht he hs h fun D C s' m H' I' q hn f=>⟨m,hn,fun h'' sb=>?_⟩
 obtain ⟨f0,f1,f2,f3,f4,f5⟩:=f
 exact ⟨.ref D,H',I'.turned (t':=s'.toks) (fun b o hb e=>(sb.2 b hb).trans e) f0 f1 f3 f4 f5,rfl,q⟩
theorem ps_setLc {i:Nat} {y:Str} {py:Pos} {elt tg iter:Expr} {ifs:List Expr} {scope:Scope} {own:List (Str×Nat)} {pos spos:Pos} {wi:TI} {g:TG} {tt:TT} {te:TE} (hc:X.calm=true) (hN:X.N.Nodup) (hy:X.N[i]?=some y) (hyl:X.env.scope.names.lookup y=some .local)
  (hsw:swapsWith (.ListComp elt [⟨tg,iter,ifs,0⟩] scope pos) (some (.Name y py)) spos.line X.env=pure true) (hi:PI X tg iter wi) (ok:BlkOk X.N X.env.scope scope own)
  (hg:∀(s:Shared) (H:Hp) (C:Addr) (cl:List (Str×Addr)) (fp:List Addr),PG (X.blk s H scope (compEnvC scope cl C X.env) fp) tg g) (ht:∀(s:Shared) (H:Hp) (C:Addr) (cl:List (Str×Addr)) (fp:List Addr),PTs (X.blk s H scope (compEnvC scope cl C X.env) fp) ifs tt)
  (he:∀(s:Shared) (H:Hp) (C:Addr) (cl:List (Str×Addr)) (fp:List Addr),PE (X.blk s H scope (compEnvC scope cl C X.env) fp) elt te) (hs:∀x,foldedSetIterable iter X.env x=pure x:=by intro _;rfl):
  PS X (.Assign [.Name y py] (.ListComp elt [⟨tg,iter,ifs,0⟩] scope pos) spos) (tAsg (tLc wi g tt te (own.map (·.2))) (gName i)):=by
 intro pins s σ H D I h
 rw[exec_Assign_Name_used _ _ _ _ hsw]
 refine wpAny_bind (wpAny_standAt (wpAny_bind ?_))
 show wpAny _ X.A (do let _ ← comprehension (.ListComp elt [⟨tg,iter,ifs,0⟩] scope pos) scope X.env (firstIterPos [⟨tg,iter,ifs,0⟩] pos) (newList []) false (eval iter X.env) (some (assign (.Name y py) X.env))) _ _ s
 have h:tLc wi g tt te (own.map (·.2)) σ H (fun x H1=>gName i x σ H1 D.nx):=h
 refine wpAny_bind (thn (lc_core (Qf:=fun _ s'=>SP X pins D .next s') hc hN I hi ok hg ht he hs h fun L C s' m H' I' q hn f=>?_) fun _ s' hq=>wpAny_pure (wpAny_pure hq))
 show wpAny _ _ (assign (.Name y py) X.env (.ref L)) _ _ _
 refine wpAny_assign_Name (store_ok2 (v:=V.ref L) I' hN hy (.inl hyl) rfl (fun s2 I2 ⟨a,sb,ha⟩=>?_) (.inr hyl))
 obtain ⟨f0,f1,f2,f3,f4,f5⟩:=f
 have haC:C≠a:=by
  rcases ha with z|z
  ·rw[z];exact f1
  ·exact fun e=>f4 y a z e.symm
 refine ⟨m,hn.sameBut sb haC,fun h3 sb3=>?_⟩
 exact ⟨_,H',I2.turned (t':=s2.toks) (fun b o hb e=>(sb3.2 b hb).trans e) f0 f1 f3 f4 f5,q⟩
theorem sw_true {elt:Expr} {gs:List Comprehension} {scope:Scope} {pos py:Pos} {y:Str} {l:Nat} {env:Env} (hk:env.scope.kind=.function) (hy:env.scope.names.lookup y=some .local) (hl:(py.line==pos.line)=true)
  (ha:(scope.names.any fun (n,k)=>n==y&&(k==.local||k==.cell))=false):swapsWith (.ListComp elt gs scope pos) (some (.Name y py)) l env=pure true:=by
 have ky:env.kindOf y=some .local:=hy
 have hb:env.blockKind=.function:=by unfold Env.blockKind;rw[hk];rfl
 unfold swapsWith
 simp only[hb,ky,ha,Expr.pos,hl]
 rfl
end
def blkC (N:List Str) (sc scope:Scope) (own:List (Str×Nat)):Bool:=
 (match scope.kind with|.function=>true|_=>false)&&(scope.names.all fun y=>decide (scope.names.lookup y.1=some y.2))&&(own.all fun p=>decide (N[p.2]?=some p.1)) &&
  (scope.names.all fun y=>match y.2 with
   | .free=>(match sc.names.lookup y.1 with|some .cell=>true|some .free=>true|_=>false)
   | .local=>decide (y.1∈own.map (·.1))||decide (y.1∉N)
   | .cell=>decide (y.1∈own.map (·.1))||decide (y.1∉N)
   | _=>true)
theorem Xt {N:List Str} {sc scope:Scope} {own:List (Str×Nat)} (h:blkC N sc scope own=true):BlkOk N sc scope own:=by
 unfold blkC at h
 simp only[Bool.and_eq_true,List.all_eq_true,decide_eq_true_eq] at h
 obtain ⟨⟨⟨h1,h2⟩,h3⟩,h4⟩:=h
 refine ⟨?_,h2,h3,fun y hy e=>?_,fun y hy e=>?_⟩
 ·split at h1
  ·assumption
  ·cases h1
 ·have q:=h4 y hy
  simp only[e] at q
  split at q<;>first|exact .inl (by assumption)|exact .inr (by assumption)|cases q
 ·have q:=h4 y hy
  rcases e with e|e<;>(simp only[e,Bool.or_eq_true,decide_eq_true_eq] at q;exact q)
section
variable {prog:Program} {w:World} {A:Around} {R:Result→Shared→Prop} {s:Shared} {elt t0 i0 t1 i1:Expr} {ifs0 ifs1:List Expr} {scope:Scope} {pos:Pos} {it acc:Value} {env:Env}
end
section
variable {X:Cx}
end
section
variable {κ:Type} [DecidableEq κ]
def valV (kvs:List (κ×V)) (k:κ):Option V:=(kvs.find? fun kv=>decide (kv.1=k)).map (·.2)
def putK (kvs:List (κ×V)) (k:κ) (v:V):List (κ×V):=
 if (kvs.any fun kv=>decide (kv.1=k))=true then kvs.map (fun kv=>if kv.1=k then (kv.1,v) else kv) else kvs++[(k,v)]
def dropK (kvs:List (κ×V)) (k:κ):List (κ×V):=kvs.filter fun kv=>decide (kv.1≠k)
theorem Y4 {p:κ×V} {r:List (κ×V)} {k:κ} (e:p.1=k):valV (p::r) k=some p.2:=by simp[valV,List.find?_cons,e]
theorem Yv {p:κ×V} {r:List (κ×V)} {k:κ} (e:¬ p.1=k):valV (p::r) k=valV r k:=by simp[valV,List.find?_cons,e]
theorem valV_any (k:κ):∀kvs:List (κ×V),(kvs.any fun kv=>decide (kv.1=k))=(valV kvs k).isSome
 | []=>rfl
 | p::r=>by
  rw[List.any_cons]
  by_cases e:p.1=k
  ·simp only[Y4 e,decide_eq_true e,Bool.true_or,Option.isSome_some]
  ·rw[Yv e,decide_eq_false e,Bool.false_or];exact valV_any k r
theorem valV_map (k j:κ) (y:V):∀kvs:List (κ×V),valV (kvs.map fun kv=>if kv.1=k then (kv.1,y) else kv) j=(valV kvs j).map fun x=>if j=k then y else x
 | []=>rfl
 | p::r=>by
  have ih:=valV_map k j y r
  rw[List.map_cons]
  by_cases h:p.1=k
  ·rw[if_pos h]
   by_cases e:p.1=j
   ·rw[Y4 (p:=(p.1,y)) e,Y4 e,Option.map_some,if_pos (e.symm.trans h)]
   ·rw[Yv (p:=(p.1,y)) e,Yv e,ih]
  ·rw[if_neg h]
   by_cases e:p.1=j
   ·rw[Y4 (p:=p) e,Y4 e,Option.map_some,if_neg (fun z=>h (e.trans z))]
   ·rw[Yv (p:=p) e,Yv e,ih]
theorem valV_snoc (k j:κ) (y:V):∀kvs:List (κ×V),valV kvs k=none→valV (kvs++[(k,y)]) j=if j=k then some y else valV kvs j
 | [],_=>by
  by_cases e:k=j
  ·rw[if_pos e.symm];exact Y4 (p:=(k,y)) e
  ·rw[if_neg (fun z=>e z.symm)];exact Yv (p:=(k,y)) e
 | p::r,hn=>by
  rw[List.cons_append]
  have hk:¬ p.1=k:=fun z=>by rw[Y4 z] at hn;cases hn
  rw[Yv hk] at hn
  have ih:=valV_snoc k j y r hn
  by_cases e:p.1=j
  ·rw[Y4 e,Y4 e,if_neg (fun z=>hk (e.trans z))]
  ·rw[Yv e,Yv e,ih]
theorem valV_put (kvs:List (κ×V)) (k j:κ) (y:V):valV (putK kvs k y) j=if j=k then some y else valV kvs j:=by
 unfold putK
 by_cases a:(kvs.any fun kv=>decide (kv.1=k))=true
 ·rw[if_pos a,valV_map]
  rw[valV_any] at a
  by_cases e:j=k
  ·obtain ⟨x,hx⟩:=Option.isSome_iff_exists.mp a
   rw[if_pos e,e,hx,Option.map_some,if_pos rfl]
  ·rw[if_neg e]
   cases valV kvs j with
   | none=>rfl
   | some x=>rw[Option.map_some,if_neg e]
 ·rw[if_neg a]
  refine valV_snoc k j y kvs ?_
  rw[valV_any] at a
  cases q:valV kvs k with
  | none=>rfl
  | some x=>rw[q] at a;exact (a rfl).elim
theorem length_putK (kvs:List (κ×V)) (k:κ) (v:V):(putK kvs k v).length≤kvs.length+1:=by
 unfold putK
 split
 ·rw[List.length_map];omega
 ·rw[List.length_append,List.length_cons,List.length_nil];omega
theorem RelO.isSome_eq {o:Option V} {u:Option Value} (r:RelO o u):o.isSome=u.isSome:=by
 cases o with
 | none=>cases u with
  | none=>rfl
  | some _=>exact (show False from r).elim
 | some _=>cases u with
  | none=>exact (show False from r).elim
  | some _=>rfl
theorem RelO.getD {o:Option V} {u:Option Value} {d:V} {d':Value} (r:RelO o u) (rd:RelV d d'):RelV (o.getD d) (u.getD d'):=by
 cases o with
 | none=>cases u with
  | none=>exact rd
  | some _=>exact (show False from r).elim
 | some _=>cases u with
  | none=>exact (show False from r).elim
  | some _=>exact r
theorem KV.val {kvs:List (κ×V)} {vs:List (κ×Value)} (r:KV kvs vs) (k:κ):RelO (valV kvs k) (valueAt vs k):=by
 unfold KV at r
 induction r with
 | nil=>exact True.intro
 | @cons p q ps qs h t ih=>
  obtain ⟨h1,h2⟩:=h
  by_cases e:p.1=k
  ·have e':q.1=k:=h1.symm.trans e
   have b:valueAt (q::qs) k=some q.2:=by simp[valueAt,List.find?_cons,e']
   rw[Y4 e,b];exact h2
  ·have e':¬ q.1=k:=fun z=>e (h1.trans z)
   have b:valueAt (q::qs) k=valueAt qs k:=by simp[valueAt,List.find?_cons,e']
   rw[Yv e,b];exact ih
theorem KV.any {kvs:List (κ×V)} {vs:List (κ×Value)} (r:KV kvs vs) (k:κ):(kvs.any fun kv=>decide (kv.1=k))=vs.any fun kv=>decide (kv.1=k):=by
 unfold KV at r
 induction r with
 | nil=>rfl
 | cons h t ih=>rw[List.any_cons,List.any_cons,ih,h.1]
theorem KV.repl {kvs:List (κ×V)} {vs:List (κ×Value)} (r:KV kvs vs) (k:κ) {y:V} {u:Value} (ry:RelV y u):
  KV (kvs.map fun kv=>if kv.1=k then (kv.1,y) else kv) (vs.map fun kv=>if kv.1=k then (kv.1,u) else kv):=by
 unfold KV at r ⊢
 induction r with
 | nil=>exact .nil
 | @cons p q ps qs h t ih=>
  rw[List.map_cons,List.map_cons]
  refine .cons ?_ ih
  obtain ⟨h1,h2⟩:=h
  by_cases e:p.1=k
  ·rw[if_pos e,if_pos (h1.symm.trans e)];exact ⟨h1,ry⟩
  ·rw[if_neg e,if_neg (fun z=>e (h1.trans z))];exact ⟨h1,h2⟩
theorem KV.put {kvs:List (κ×V)} {vs:List (κ×Value)} (r:KV kvs vs) (k:κ) {y:V} {u:Value} (ry:RelV y u):KV (putK kvs k y) (stored vs k u):=by
 unfold putK stored
 rw[r.any k]
 by_cases e:(vs.any fun kv=>decide (kv.1=k))=true
 ·rw[if_pos e,if_pos e];exact r.repl k ry
 ·rw[if_neg e,if_neg e];exact Paired.snoc r ⟨rfl,ry⟩
theorem KV.length {kvs:List (κ×V)} {vs:List (κ×Value)} (r:KV kvs vs):kvs.length=vs.length:=Paired.length r
theorem dropK_le (kvs:List (κ×V)) (k:κ):(dropK kvs k).length≤kvs.length:=List.length_filter_le _ _
end
theorem kV_is {P:Program} {w:World} {k:Key} {u:Value} (r:RelV (kV k) u):(Qx P w).is k u=true:=by
 cases k with
 | inl i=>obtain ⟨t,e⟩:=(show ∃t,u=Value.int i t from r);subst e;exact mixKind_int P w i t
 | inr x=>obtain ⟨t,e⟩:=(show ∃t,u=Value.str x t from r);subst e;exact mixKind_str P w x t
theorem items_are {P:Program} {w:World}:∀{ks:List Key} {us:List Value},Vals (ks.map kV) us→ItemsAre (Qx P w) ks us
 | [],_,r=>by rw[List.map_nil] at r;cases r;exact .nil
 | k::ks,_,r=>by
  rw[List.map_cons] at r
  cases r with
  | cons h t=>exact .cons (kV_is h) (items_are t)
abbrev KT (H:Hp):List (List Key×V)→List (List Key×Addr×Value)→Prop:=Paired fun p q=>p.1=q.1∧H q.2.1=some (.tup (p.1.map kV))∧RelV p.2 q.2.2
theorem KT.val {H:Hp} {kvs:List (List Key×V)} {xs:List (List Key×Addr×Value)} (r:KT H kvs xs) (k:List Key):RelO (valV kvs k) ((atKey xs k).map (·.2)):=by
 induction r with
 | nil=>exact True.intro
 | @cons p q ps qs h t ih=>
  obtain ⟨h1,_,h2⟩:=h
  by_cases e:p.1=k
  ·have e':q.1=k:=h1.symm.trans e
   have b:atKey (q::qs) k=some q.2:=by simp[atKey,List.find?_cons,e']
   rw[Y4 e,b];exact h2
  ·have e':¬ q.1=k:=fun z=>e (h1.trans z)
   have b:atKey (q::qs) k=atKey qs k:=by simp[atKey,List.find?_cons,e']
   rw[Yv e,b];exact ih
theorem KT.repl {H:Hp} {kvs:List (List Key×V)} {xs:List (List Key×Addr×Value)} (r:KT H kvs xs) (k:List Key) {y:V} {u:Value} (ry:RelV y u):
  KT H (kvs.map fun kv=>if kv.1=k then (kv.1,y) else kv) (xs.map (putAt k u)):=by
 induction r with
 | nil=>exact .nil
 | @cons p q ps qs h t ih=>
  rw[List.map_cons,List.map_cons]
  refine .cons ?_ ih
  obtain ⟨h1,h2,h3⟩:=h
  unfold putAt
  by_cases e:p.1=k
  ·rw[if_pos e,if_pos (h1.symm.trans e)];exact ⟨h1,h2,ry⟩
  ·rw[if_neg e,if_neg (fun z=>e (h1.trans z))];exact ⟨h1,h2,h3⟩
theorem KT.put {H:Hp} {kvs:List (List Key×V)} {xs:List (List Key×Addr×Value)} (r:KT H kvs xs) (k:List Key) {b:Addr} {y:V} {u:Value} (hb:H b=some (.tup (k.map kV))) (ry:RelV y u):
  KT H (putK kvs k y) (storedH xs k b u):=by
 have e:(kvs.any fun kv=>decide (kv.1=k))=(atKey xs k).isSome:=by
  rw[valV_any,(r.val k).isSome_eq,Option.isSome_map]
 unfold putK storedH
 rw[e]
 by_cases q:(atKey xs k).isSome=true
 ·rw[if_pos q,if_pos q];exact r.repl k ry
 ·rw[if_neg q,if_neg q];exact Paired.snoc r ⟨rfl,hb,ry⟩
theorem KT.keeps {H H':Hp} {kvs:List (List Key×V)} {xs:List (List Key×Addr×Value)} (r:KT H kvs xs) (ht:∀b ys,H b=some (.tup ys)→H' b=some (.tup ys)):KT H' kvs xs:=
 Paired.mapP r fun _ _ z=>⟨z.1,ht _ _ z.2.1,z.2.2⟩
section
variable {P:Program} {w:World} {H:Hp} {h:Heap} {a:Addr}
theorem rd_of {u:HO} (ok:HOk P w H h) (e:Rd H a u):ObjOk P w H h a u:=e.ok ok
theorem dk_rd {kvs:List (Key×V)} (ok:HOk P w H h) (e:Rd H a (.dK kvs)):kvs.length≤sizeLine∧(a==sysModules)=false∧∃vs,KV kvs vs∧h.DictOf (Qx P w) a vs:=
 show ObjOk P w H h a (.dK kvs) from rd_of ok e
theorem dk_of {kvs:List (Key×V)} (ok:HOk P w H h) (e:H a=some (.dK kvs)):kvs.length≤sizeLine∧(a==sysModules)=false∧∃vs,KV kvs vs∧h.DictOf (Qx P w) a vs:=dk_rd ok (.inl e)
theorem key_of {ks:List Key} (ok:HOk P w H h) (e:H a=some (.tup (ks.map kV))):(tupleKind (Qx P w)).is h ks a:=by
 obtain ⟨_,its,r,o,h1,h2,n,h3⟩:=(show ObjOk P w H h a (.tup (ks.map kV)) from ok a _ e)
 exact ⟨o,its.toArray,n,h1,h2,h3,by simpa using items_are r⟩
theorem dt_rd {kvs:List (List Key×V)} (ok:HOk P w H h) (e:Rd H a (.dT kvs)):kvs.length≤sizeLine∧(a==sysModules)=false ∧
  ∃xs,KT H kvs xs∧h.DictOfH (tupleKind (Qx P w)) a xs:=by
 obtain ⟨z,y,xs,r,o,es,ep,h1,h2,h3,h4,h5⟩:=(show ObjOk P w H h a (.dT kvs) from rd_of ok e)
 refine ⟨z,y,xs,r,o,es,ep,h1,h2,h3,h4,fun x hx=>?_,h5⟩
 have all:∀{l:List (List Key×V)} {m:List (List Key×Addr×Value)},KT H l m→∀x∈m,(tupleKind (Qx P w)).is h x.1 x.2.1:=by
  intro l m q
  induction q with
  | nil=>intro x hx;exact nomatch hx
  | @cons p q ps qs hq t ih=>
   intro x hx
   rcases List.mem_cons.mp hx with e|hx
   ·subst e
    exact key_of ok (by rw[← hq.1];exact hq.2.1)
   ·exact ih x hx
 exact all r x hx
theorem dt_of {kvs:List (List Key×V)} (ok:HOk P w H h) (e:H a=some (.dT kvs)):kvs.length≤sizeLine∧(a==sysModules)=false ∧
  ∃xs,KT H kvs xs∧h.DictOfH (tupleKind (Qx P w)) a xs:=dt_rd ok (.inl e)
end
def DGet (H:Hp) (a:Addr) (y:V) (r:Option V):Prop:=
 (∃kvs k,Rd H a (.dK kvs)∧y=kV k∧r=valV kvs k)∨∃kvs k b,Rd H a (.dT kvs)∧y=.ref b∧H b=some (.tup (k.map kV))∧r=valV kvs k
def DPut (H:Hp) (a:Addr) (y v:V) (H':Hp):Prop:=
 (∃kvs k,H a=some (.dK kvs)∧y=kV k∧kvs.length<sizeLine∧H'=upd H a (.dK (putK kvs k v))) ∨
 ∃kvs k b,H a=some (.dT kvs)∧y=.ref b∧H b=some (.tup (k.map kV))∧kvs.length<sizeLine∧H'=upd H a (.dT (putK kvs k v))
theorem DGet.k {H:Hp} {a:Addr} {kvs:List (Key×V)} {k:Key} (e:H a=some (.dK kvs)):DGet H a (kV k) (valV kvs k):=.inl ⟨kvs,k,.inl e,rfl,rfl⟩
theorem DGet.t {H:Hp} {a b:Addr} {kvs:List (List Key×V)} {k:List Key} (e:H a=some (.dT kvs)) (eb:H b=some (.tup (k.map kV))):DGet H a (.ref b) (valV kvs k):=.inr ⟨kvs,k,b,.inl e,rfl,eb,rfl⟩
theorem DPut.k {H:Hp} {a:Addr} {kvs:List (Key×V)} {k:Key} {v:V} (e:H a=some (.dK kvs)) (hl:kvs.length<sizeLine):DPut H a (kV k) v (upd H a (.dK (putK kvs k v))):=.inl ⟨kvs,k,e,rfl,hl,rfl⟩
theorem DPut.t {H:Hp} {a b:Addr} {kvs:List (List Key×V)} {k:List Key} {v:V} (e:H a=some (.dT kvs)) (eb:H b=some (.tup (k.map kV))) (hl:kvs.length<sizeLine):
  DPut H a (.ref b) v (upd H a (.dT (putK kvs k v))):=.inr ⟨kvs,k,b,e,rfl,eb,hl,rfl⟩
section
variable {X:Cx} {pins:List (Addr×Obj)} {σ:St} {H:Hp} {s:Shared} {a:Addr} {y v:V} {u r:Value} {o:Option V} {A:Around} {E:Value→Shared→Prop}
theorem Inv.big (I:Inv X pins σ H s):sysModules<s.heap.objs.size:=by
 have h:mainGlobals<s.heap.objs.size:=(I.mod.glob.keeps I.bk).lt
 exact Nat.lt_trans (by decide) h
theorem d_getItem {Q:Value→Shared→Prop} (hu:A.units+1<cLine) (I:Inv X pins σ H s) (g:DGet H a y (some v)) (ry:RelV y u) (h:∀w' s',Inv X pins σ H s'→RelV v w'→Q w' s'):
  wpAny (model X.prog X.w) A (getItem (.ref a) u) Q E s:=by
 rcases g with ⟨kvs,k,e,ey,l⟩|⟨kvs,k,b,e,ey,eb,l⟩
 ·subst ey
  obtain ⟨z,hd,vs,rel,dd⟩:=dk_rd I.hok e
  obtain ⟨w',hw,rw'⟩:=RelO.some_of (v:=v) (o:=valueAt vs k) (by rw[l];exact rel.val k)
  exact wpAny_getItem_of (kV_is ry) dd.mapOf hw (h w' _ (I.tok _) rw')
 ·subst ey
  cases (show u=Value.ref b from ry)
  obtain ⟨z,hd,xs,rel,dd⟩:=dt_rd I.hok e
  obtain ⟨w',hw,rw'⟩:=RelO.some_of (v:=v) (o:=(atKey xs k).map (·.2)) (by rw[l];exact rel.val k)
  obtain ⟨p,hp,hp2⟩:=Option.map_eq_some_iff.mp hw
  refine wpAny_getItem_heap (tupleKind_room_in1 hu) (key_of I.hok eb) dd hp ?_
  rw[hp2]
  exact h w' _ (I.tok _) rw'
theorem d_write {h':Heap} {t':Nat} {ob:HO} (I:Inv X pins σ H s) (mu:Mut (H a)) (hs:Heap.SameBut a s.heap h') (he:∃q,h'.get? a=some q) (new:ObjOk X.prog X.w (upd H a ob) h' a ob):
  Inv X pins σ (upd H a ob) { s with heap:=h',toks:=t' }:=
 I.write (x:=a) (e:=a) mu (.inl rfl) (fun b q hb z=>(hs.2 b hb).trans z) he new
theorem dk_new {P:Program} {w:World} {H':Hp} {h':Heap} {kvs:List (Key×V)} {vs:List (Key×Value)} (z:kvs.length≤sizeLine) (hd:(a==sysModules)=false) (rel:KV kvs vs) (dd:h'.DictOf (Qx P w) a vs):
  ObjOk P w H' h' a (.dK kvs):=⟨z,hd,vs,rel,dd⟩
theorem d_setItem {H':Hp} {Q:Unit→Shared→Prop} (hu:A.units+1<cLine) (I:Inv X pins σ H s) (g:DPut H a y v H') (ry:RelV y u) (rv:RelV v r) (h:∀s',Inv X pins σ H' s'→Q () s'):
  wpAny (model X.prog X.w) A (setItem (.ref a) u r) Q E s:=by
 rcases g with ⟨kvs,k,e,ey,l,eH⟩|⟨kvs,k,b,e,ey,eb,l,eH⟩
 ·subst ey eH
  obtain ⟨z,hd,vs,rel,dd⟩:=dk_of I.hok e
  have hz:vs.length≤sizeLine:=by rw[← rel.length];exact z
  have hl:(putK kvs k v).length≤sizeLine:=by have:=length_putK kvs k v;omega
  refine wpAny_setItem_pairs (hsz:=hz) (kV_is ry) dd fun h' dd' hs=>h _ ?_
  have he:∃q,h'.get? a=some q:=let ⟨q,_,_,hq,_⟩:=dd';⟨q,hq⟩
  exact d_write I (by rw[e];exact True.intro) hs he (dk_new hl hd (rel.put k rv) dd')
 ·subst ey eH
  cases (show u=Value.ref b from ry)
  obtain ⟨z,hd,xs,rel,dd⟩:=dt_of I.hok e
  have hz:xs.length≤sizeLine:=by rw[← Paired.length rel];exact z
  have hl:(putK kvs k v).length≤sizeLine:=by have:=length_putK kvs k v;omega
  refine wpAny_setItem_heap (hsz:=hz) (tupleKind_room_in1 hu) (key_of I.hok eb) dd fun h' dd' hs=>h _ ?_
  obtain ⟨q,es,ep,hq,h2,h3,h4,_,h5⟩:=dd'
  refine d_write I (by rw[e];exact True.intro) hs ⟨q,hq⟩ ⟨hl,hd,_,(rel.put k eb rv).keeps fun c ys ec=>?_,q,es,ep,hq,h2,h3,h4,h5⟩
  rw[Zn (ne_of ec e (fun z=>nomatch z))]
  exact ec
end
section
variable {X:Cx} {pins:List (Addr×Obj)} {σ:St} {H:Hp} {s:Shared} {a:Addr} {kvs:List (Key×V)} {k:Key} {u:Value} {A:Around} {E:Value→Shared→Prop}
end
def NoSl (i:Expr):Prop:=∀ov iv,subscripted i false ov iv=operate [ov,iv] (getItem ov iv)
theorem subD_of {prog:Program} {w:World} {A:Around} {E:Value→Shared→Prop} {s:Shared} {env:Env} {value slice:Expr} {pos:Pos} {T id:String} {Q:Value→Shared→Prop}
  (hl:typeLookup (.type T) "__getitem__"=pure (some (.builtin id))) (hs:NoSl slice)
  (h:wpAny (model prog w) A (eval value env) (fun o s₁=>wpAny (model prog w) A (eval slice env) (fun i s₂=>s₂.TypeIs o T∧wpAny (model prog w) A (getItem o i) Q E s₂) E s₁) E s):
  wpAny (model prog w) A (eval (.Subscript value slice pos) env) Q E s:=by
 refine Subscript_ (wpAny_mono h (fun o s₁ h₁=>wpAny_mono h₁ (fun i s₂ h₂=>?_) fun _ _ x=>x) fun _ _ x=>x)
 obtain ⟨hT,h₂⟩:=h₂
 unfold subscriptTail
 refine wpAny_bind ?_
 rw[getitemInPython_of_ne hT.not_modules]
 refine wpAny_bind (wpAny_specialOf hT hl ?_)
 have fin:wpAny (model prog w) A (subscripted slice false o i) (fun r s₃=>wpAny (model prog w) A (letTemporaryGo value o r >>= fun _=>pure r) Q E s₃) E s₂:=by
  rw[hs o i]
  exact wpAny_operating (wpAny_mono h₂ (fun r s₃ h₃=>wpAny_bind (wpAny_letTemporaryGo (wpAny_pure h₃))) fun _ _ x=>x)
 first
  | exact wpAny_pure (wpAny_bind fin)
  | exact wpAny_bind (wpAny_pure (wpAny_bind fin))
  | exact wpAny_bind fin
theorem dict_typeIs {X:Cx} {pins:List (Addr×Obj)} {σ:St} {H:Hp} {s:Shared} {a:Addr} {y:V} {o:Option V} (I:Inv X pins σ H s) (g:DGet H a y o):s.TypeIs (.ref a) "dict":=by
 rcases g with ⟨kvs,k,e,_,_⟩|⟨kvs,k,b,e,_,_,_⟩
 ·obtain ⟨_,_,vs,_,dd⟩:=dk_rd I.hok e
  exact dd.typeIs
 ·obtain ⟨_,_,xs,_,dd⟩:=dt_rd I.hok e
  exact dd.typeIs
def tDGet (td ty:TE):TE:=fun σ H Q=>td σ H fun x H1=>ty σ H1 fun y H2=>∃a v,x=.ref a∧DGet H2 a y (some v)∧Q v H2
def sDPut (td ty tv:TE):TS:=fun D σ H=>tv σ H fun v H1=>td σ H1 fun x H2=>ty σ H2 fun y H3=>∃a H4,x=.ref a∧DPut H3 a y v H4∧D.nx σ H4
section
variable {X:Cx} {o i e value:Expr} {pos pos' tpos:Pos} {td ty tv:TE}
theorem pe_dget (hu:X.A.units+1<cLine) (ho:PE X o td) (hi:PE X i ty) (hs:NoSl i):PE X (.Subscript o i pos) (tDGet td ty):=by
 intro pins s σ H Q I h
 refine subD_of PySem.F.slot_dict_getitem.lookup hs (thn (ho pins s σ H _ I h) fun u s1 ⟨x,H1,I1,rx,q1⟩=>thn (hi pins s1 σ H1 _ I1 q1) fun iv s2 ⟨y,H2,I2,ry,a,v,ex,g,q2⟩=>?_)
 subst ex
 obtain rfl:u=Value.ref a:=rx
 exact ⟨dict_typeIs I2 g,d_getItem hu I2 g ry fun w' s3 I3 rw'=>⟨v,H2,I3,rw',q2⟩⟩
theorem ps_dput (hu:X.A.units+1<cLine) (ho:PE X o td) (hi:PE X i ty) (hv:PE X value tv) (hs:swapsWith value (some (.Subscript o i pos')) pos.line X.env=pure false):
  PS X (.Assign [.Subscript o i pos'] value pos) (sDPut td ty tv):=by
 intro pins s σ H D I h
 refine wpAny_Assign_Subscript (thn (hv pins s σ H _ I h) fun r s1 ⟨v,H1,I1,rv,q1⟩=>thn (ho pins s1 σ H1 _ I1 q1) fun u s2 ⟨x,H2,I2,rx,q2⟩=>thn (hi pins s2 σ H2 _ I2 q2) fun iv s3 ⟨y,H3,I3,ry,a,H4,ex,g,q3⟩=>?_) hs
 subst ex
 obtain rfl:u=Value.ref a:=rx
 exact d_setItem hu I3 g ry rv fun s4 I4=>⟨σ,H4,I4,q3⟩
end
theorem dk_empty {P:Program} {w:World} {H:Hp} (h:Heap) (hb:sysModules<h.objs.size):ObjOk P w H (h.push { cls:=.type "dict",data:=.dict #[] }) h.objs.size (.dK []):=
 ⟨Nat.zero_le _,beq_eq_false_iff_ne.mpr (Ne.symm (Nat.ne_of_lt hb)),[],.nil,Heap.DictOf.new h⟩
theorem dt_empty {P:Program} {w:World} {H:Hp} (h:Heap) (hb:sysModules<h.objs.size):ObjOk P w H (h.push { cls:=.type "dict",data:=.dict #[] }) h.objs.size (.dT []):=
 ⟨Nat.zero_le _,beq_eq_false_iff_ne.mpr (Ne.symm (Nat.ne_of_lt hb)),[],.nil,_,#[],0,Heap.get?_push_size _ rfl,⟨rfl,rfl,rfl⟩,rfl,rfl,List.nodup_nil⟩
def tDNewK:TE:=fun _ H Q=>∀p,H p=none→Q (.ref p) (upd H p (.dK []))
def tDNewT:TE:=fun _ H Q=>∀p,H p=none→Q (.ref p) (upd H p (.dT []))
section
variable {X:Cx} {pos:Pos}
theorem pe_dnewK:PE X (.Dict [] [] pos) tDNewK:=fun pins s σ H Q I h=>
 wpAny_Dict_empty ⟨.ref s.heap.objs.size,_,I.laid (a:=s.heap.objs.size) (o:=.dK []) (t':=s.toks) (fun _ _ q=>Heap.get?_push_of_some _ q) (Nat.le_refl _) (dk_empty s.heap I.big),rfl,h _ (I.hok.fresh (Nat.le_refl _))⟩
theorem pe_dnewT:PE X (.Dict [] [] pos) tDNewT:=fun pins s σ H Q I h=>
 wpAny_Dict_empty ⟨.ref s.heap.objs.size,_,I.laid (a:=s.heap.objs.size) (o:=.dT []) (t':=s.toks) (fun _ _ q=>Heap.get?_push_of_some _ q) (Nat.le_refl _) (dt_empty s.heap I.big),rfl,h _ (I.hok.fresh (Nat.le_refl _))⟩
end
structure M1 (X:Cx) (o:Expr) (m:Str) (apos:Pos) (e:Expr) (cpos:Pos):Prop where
 base:attributeBase o m X.env (eval o X.env)=eval o X.env
 few:((backTo cpos (starEach [e] X.env)).all (fun x=>!x.1)&&(backToKw cpos (keywordEach [] X.env)).all (fun x=>x.1.isSome)
  && decide (([e]:List Expr).length+([]:List Keyword).length+(if ([]:List Keyword).isEmpty then 0 else 1)<30))=true
 line:(apos.endLine==cpos.line)=true
 trees:backTo cpos (starEach [e] X.env)=[(false,eval e X.env)]
def IsD (H:Hp) (a:Addr):Prop:=(∃kvs,Rd H a (.dK kvs))∨∃kvs,Rd H a (.dT kvs)
theorem isD_at {X:Cx} {pins:List (Addr×Obj)} {σ:St} {H:Hp} {s:Shared} {a:Addr} (I:Inv X pins σ H s) (d:IsD H a):
  s.TypeIs (.ref a) "dict"∧(∀b,Value.ref a=.ref b→∃ob,s.heap.get? b=some ob∧ob.dict=none)∧(a==sysModules)=false:=by
 rcases d with ⟨kvs,e⟩|⟨kvs,e⟩
 ·obtain ⟨_,hd,vs,_,dd⟩:=dk_rd I.hok e
  refine ⟨dd.typeIs,fun b q=>?_,hd⟩
  cases q
  obtain ⟨ob,_,_,h1,h2,_⟩:=dd
  exact ⟨ob,h1,h2.2.1⟩
 ·obtain ⟨_,hd,xs,_,dd⟩:=dt_rd I.hok e
  refine ⟨dd.typeIs,fun b q=>?_,hd⟩
  cases q
  obtain ⟨ob,_,_,h1,h2,_⟩:=dd
  exact ⟨ob,h1,h2.2.1⟩
section
variable {X:Cx} {pins:List (Addr×Obj)} {σ:St} {H:Hp} {s:Shared} {a:Addr} {y d:V} {u r:Value} {o:Option V} {A:Around} {E:Value→Shared→Prop}
theorem d_get1 {Q:Value→Shared→Prop} (hu:A.units+1<cLine) (I:Inv X pins σ H s) (g:DGet H a y o) (ry:RelV y u) (h:∀w' s',Inv X pins σ H s'→RelV (o.getD .non) w'→Q w' s'):
  wpAny (model X.prog X.w) A (call (.builtin "dict.get") [.ref a,u]) Q E s:=by
 rcases g with ⟨kvs,k,e,ey,l⟩|⟨kvs,k,b,e,ey,eb,l⟩
 ·subst ey
  obtain ⟨z,hd,vs,rel,dd⟩:=dk_rd I.hok e
  refine call_meetsIn PySem.F.slot_dict_get dd.typeIs PySem.F.entry_dict_get (PySem.F.args_dict_get_2 _ _) (meets_dict_get (Qx X.prog X.w) a (kV_is ry) hd) ⟨_,dd.mapOf,h _ _ (I.tok _) ?_⟩
  rw[l]
  exact (rel.val k).getD rfl
 ·subst ey
  cases (show u=Value.ref b from ry)
  obtain ⟨z,hd,xs,rel,dd⟩:=dt_rd I.hok e
  refine call_meetsIn PySem.F.slot_dict_get dd.typeIs PySem.F.entry_dict_get (PySem.F.args_dict_get_2 _ _) (meetsH_dict_get (tupleKind (Qx X.prog X.w)) a b hd) ⟨tupleKind_room_in1 hu,k,xs,key_of I.hok eb,dd,h _ _ (I.tok _) ?_⟩
  rw[l]
  exact (rel.val k).getD rfl
end
def tDGet1 (td ty:TE):TE:=fun σ H Q=>td σ H fun x H1=>∃a,x=.ref a∧IsD H1 a∧ty σ H1 fun y H2=>∃o,DGet H2 a y o∧Q (o.getD .non) H2
section
variable {X:Cx} {o e f:Expr} {apos cpos:Pos} {td ty tx:TE}
theorem pe_dget1 (hu:X.A.units+1<cLine) (ho:PE X o td) (he:PE X e ty) (m:M1 X o "get" apos e cpos):PE X (.Call (.Attribute o "get" apos) [e] [] cpos) (tDGet1 td ty):=by
 intro pins s σ H Q I h
 refine wpAny_Call_method m.base m.few m.line PySem.F.plainAttrs_dict PySem.F.slot_dict_get PySem.F.type_dict_get (thn (ho pins s σ H _ I h) fun u s1 ⟨x,H1,I1,rx,a,ex,d,q1⟩=>?_)
 subst ex
 obtain rfl:u=Value.ref a:=rx
 obtain ⟨t1,t2,_⟩:=isD_at I1 d
 refine ⟨t1,t2,?_⟩
 rw[m.trees]
 refine Calls.callWith_builtin rfl (Calls.evalArgs_plain (Calls.spliced_cons (thn (he pins s1 σ H1 _ I1 q1) fun iv s2 ⟨y,H2,I2,ry,ov,g,q2⟩=>Calls.spliced_nil ?_)))
 exact d_get1 hu I2 g ry fun w' s3 I3 rw'=>⟨_,H2,I3,rw',q2⟩
end
section
variable {X:Cx} {pins:List (Addr×Obj)} {σ:St} {H:Hp} {s:Shared} {a:Addr} {kvs:List (Key×V)} {A:Around} {E:Value→Shared→Prop}
end
section
variable {X:Cx} {pins:List (Addr×Obj)} {σ:St} {H:Hp} {s:Shared} {a:Addr} {y:V} {u:Value} {A:Around} {E:Value→Shared→Prop}
end
section
variable {prog:Program} {w:World} {A:Around} {E:Value→Shared→Prop}
end
section
variable {X:Cx}
end
theorem boot_reversed5:bootBuiltins "reversed"=some (.type "reversed"):=by decide +kernel
section
variable {X:Cx} {pins:List (Addr×Obj)} {σ:St} {H:Hp} {s:Shared} {h':Heap}
theorem Inv.turnedL {t':Nat} {ch:List Addr} (I:Inv X pins σ H s) (k:∀b o,b∉ch→s.heap.get? b=some o→h'.get? b=some o) (hf:∀b∈ch,FpOk X pins H b):Inv X pins σ H { s with heap:=h',toks:=t' }:=by
 have nit:∀b u,H b=some u→b∉ch:=fun b u e z=>by
  have q:=(hf b z).1
  rw[q] at e;cases e
 refine I.step (g':=s.gens) (d':=s.drawn) (ch:=ch) (fun b hb=>⟨(hf b hb).2.2.2.1,(hf b hb).2.1,(hf b hb).2.2.2.2.1,(hf b hb).2.2.2.2.2⟩) (fun b o _ _ hc e _=>k b o hc e) (fun b o _ _ hc e _=>⟨o.slots,k b o hc e⟩)
  (fun _ _ _ _ n=>n) (fun b o hc e=>⟨o,k b o hc e⟩) (fun _ _ e=>e) (fun _ _ _ e=>e) (fun b ps e=>⟨#[],by rw[e];simp⟩) (fun m hm=>?_) (fun b u e=>?_) I.bare
 ·obtain ⟨o,es,ep,ho,r⟩:=hm
  exact ⟨o,es,ep,k _ o (fun z=>(hf _ z).2.1 rfl) ho,r⟩
 ·refine (I.hok b u e).stay (fun c v hc q=>k c v ?_ q) (fun _ q=>q) fun _ _ q=>q
  rcases hc with z|z
  ·rw[z];exact nit b u e
  ·exact nit c _ z
theorem Inv.turnedNew {t':Nat} {ch:List Addr} {T:Addr} {ob:HO} (I:Inv X pins σ H s) (k:∀b o,b∉ch→s.heap.get? b=some o→h'.get? b=some o) (hf:∀b∈ch,FpOk X pins H b) (hT:s.heap.objs.size≤T)
  (new:ObjOk X.prog X.w (upd H T ob) h' T ob):Inv X pins σ (upd H T ob) { s with heap:=h',toks:=t' }:=by
 have hn:H T=none:=I.hok.fresh hT
 have nit:∀b u,H b=some u→b∉ch:=fun b u e z=>by
  have q:=(hf b z).1
  rw[q] at e;cases e
 refine I.step (g':=s.gens) (d':=s.drawn) (ch:=ch) (fun b hb=>⟨(hf b hb).2.2.2.1,(hf b hb).2.1,(hf b hb).2.2.2.2.1,(hf b hb).2.2.2.2.2⟩) (fun b o _ _ hc e _=>k b o hc e) (fun b o _ _ hc e _=>⟨o.slots,k b o hc e⟩)
  (fun b o _ e n=>?_) (fun b o hc e=>⟨o,k b o hc e⟩) (fun b xs e=>?_) (fun b o u e=>?_) (fun b ps e=>⟨#[],?_⟩) (fun m hm=>?_) (fun b u e=>?_) I.bare
 ·rw[Zn (Nat.ne_of_lt (Nat.lt_of_lt_of_le (Heap.lt_size e) hT))];exact n
 ·rw[Zn (Zg e hn)];exact e
 ·rw[Zn (Zg e hn)];exact e
 ·rw[Zn (Zg e hn),e];simp
 ·obtain ⟨o,es,ep,ho,r⟩:=hm
  exact ⟨o,es,ep,k _ o (fun z=>(hf _ z).2.1 rfl) ho,r⟩
 ·by_cases hb:b=T
  ·subst hb
   rw[Zc] at e
   cases e
   exact new
  ·rw[Zn hb] at e
   refine (I.hok b u e).stay (fun c v hc q=>k c v ?_ q) (fun c q=>by rw[Zn (Zg q hn)];exact q) fun c xs q=>by rw[Zn (Zg q hn)];exact q
   rcases hc with z|z
   ·rw[z];exact nit b u e
   ·exact nit c _ z
end
section
variable {X:Cx}
theorem pi_one {tg:Expr} {pins:List (Addr×Obj)} {σ:St} {H:Hp} {s:Shared} {R:It→Hp→Prop} {J:It} {tn:Nat→Heap→Prop} {tk:Nat} (I:Inv X pins σ H s) (o:Obj)
  (T:Turn X.prog X.w X.K tg J [s.heap.objs.size] s.heap.objs.size tn) (st:tn 0 (s.heap.push o)) (q:R J H):PIE X pins σ tg R (.ref s.heap.objs.size) { s with heap:=s.heap.push o,toks:=tk }:=by
 refine ⟨s.heap.objs.size,[s.heap.objs.size],tn,J,H,rfl,I.kept fun b ob e=>Heap.get?_push_of_some _ e,T,st,fun b hb=>?_,q⟩
 have e:b=s.heap.objs.size:=by simpa using hb
 subst e
 exact I.fpOk (Nat.le_refl _) (I.hok.fresh (Nat.le_refl _))
end
def Itc (lo c:Int) (n:Nat):It:=⟨fun i _=>i<n,fun i H x H'=>H'=H∧x=.int (lo+(i:Nat)*c),fun i _=>n≤i⟩
theorem turn_rangeC {P:Program} {w:World} {K:PySem.W.Frag} {tg:Expr} (it:Addr) (lo c:Int) (n:Nat):Turn P w K tg (Itc lo c n) [it] it (fun i h=>IsRangeIter h it (lo+(i:Nat)*c) ((n:Int)-(i:Nat)) c) where
 mem:=by simp
 obj:=fun i h st b hb=>by
  have e:b=it:=by simpa using hb
  subst e
  exact ⟨_,st,fun v z=>nomatch z⟩
 keep:=fun i h h' st k=>k it (by simp) _ st
 item:=by
  intro X hP hw hK hc i pins s σ H E I hf st hg
  subst hP hw hK
  obtain ⟨f0,f1,f2,f3,f4,f5⟩:=hf it (by simp)
  have W:=Walks.range (prog:=X.prog) (w:=X.w) (I.ok.hd hc) it lo c n
  refine W.item i s _ _ hg st fun v h' tk hv st' kk=>?_
  obtain ⟨t,rfl⟩:=hv
  have I1:Inv X pins σ H { s with heap:=h',toks:=tk }:=I.turned (fun b o hb e=>kk b o (by simpa using hb) e) f0 f1 f3 f4 f5
  exact ⟨_,rfl,go_of (s:={ s with heap:=h',toks:=tk }) (n:="range_iterator") st' rfl rfl (by decide) ⟨.int (lo+(i:Nat)*c),H,I1,⟨t,rfl⟩,⟨rfl,rfl⟩,st',fun b hb=>(hf b hb).1⟩⟩
 done:=by
  intro X hP hw hK hc i pins s σ H E I hf st hg
  subst hP hw hK
  obtain ⟨f0,f1,f2,f3,f4,f5⟩:=hf it (by simp)
  exact wpAny_pyNext_range_end (I.ok.hd hc) st (by have:n≤i:=hg;omega) fun h' eb=>⟨rfl,I.turned (t':=s.toks) (fun b o hb e=>eb b o hb e) f0 f1 f3 f4 f5⟩
 self:=fun A i s Q E st h=>wpAny_pyIter_rangeiter st h
def RgC (i j c:Int) (n:Nat):Prop:=c≠0∧c.natAbs<1073741824∧Builtin.Range.small i j c=true∧Builtin.Range.rangeSize i j c=n
theorem RgC.neg {i j:Int} (ha:-(2^62)≤i) (ha':i<2^62) (hb:-(2^62)≤j) (hb':j<2^62):RgC i j (-1) (i-j).toNat:=
 ⟨by decide,by decide,PySem.W.small_down ha ha' hb hb',PySem.W.rangeSize_downNat i j⟩
def iRng3 (ta:TA):TI:=fun σ H R=>ta σ H fun vs H1=>∃(i j c:Int) (n:Nat),vs=[.int i,.int j,.int c]∧RgC i j c n∧R (Itc i c n) H1
section
variable {X:Cx} {tg:Expr}
theorem Xw {a b c:Expr} {ta:TA} {p pos:Pos} (hg:Gl X "range") (hm:X.mg "range"=none) (ha:PA X [a,b,c] ta)
  (hs:starEach [a,b,c] X.env=(false,eval a X.env)::starEach [b,c] X.env:=by rfl) (hpl:(backTo pos (starEach [b,c] X.env)).any (·.1)=false:=by rfl):
  PI X tg (.Call (.Name "range" p) [a,b,c] [] pos) (iRng3 ta):=by
 intro pins s σ H R I h
 refine Call_ (ld_blt I hg hm boot_range (PyProof.Rows.callWith_type1 (thn (ha pos pins s σ H _ I h) fun us s1 ⟨vs,H1,I1,r1,q1⟩=>?_) hs hpl))
 obtain ⟨i,j,k,n,e,⟨c0,c1,c2,c3⟩,q⟩:=q1
 subst e
 cases r1 with
 | cons r rr=>
  cases rr with
  | cons r' rr=>
   cases rr with
   | cons r'' rr=>
    cases rr
    obtain ⟨t,rfl⟩:=r
    obtain ⟨t',rfl⟩:=r'
    obtain ⟨t'',rfl⟩:=r''
    refine call_range_3 c0 ?_ (.inl (PyProof.noPylong_small c1))
    refine wpAny_pyIter_range (IsRange.new ..) c2 ?_
    have I2:Inv X pins σ H1 { s1 with heap:=s1.heap.push { cls:=.type "range",data:=.fields #[.int i t,.int j t',.int k t''] } }:=I1.kept (t':=s1.toks) fun b o e=>Heap.get?_push_of_some _ e
    refine pi_one (tk:=s1.toks) I2 _ (turn_rangeC _ i k n) ?_ q
    have e1:i+((0:Nat):Int)*k=i:=by simp
    have e2:(n:Int)-((0:Nat):Int)=Builtin.Range.rangeSize i j k:=by rw[c3];simp
    show IsRangeIter _ _ (i+((0:Nat):Int)*k) ((n:Int)-((0:Nat):Int)) k
    rw[e1,e2]
    exact Heap.get?_push_size _ rfl
end
theorem Jj {lo c:Int} {n:Nat} {g:TG} {tb:TS} {D:Ends} {σ:St} {H:Hp} (Pv:Nat→St→Hp→Prop) (h0:Pv 0 σ H)
  (hs:∀i σ H,i<n→Pv i σ H→g (.int (lo+(i:Nat)*c)) σ H fun σ2 H2=>tb { D with nx:=Pv (i+1),ct:=Pv (i+1),bk:=D.nx } σ2 H2) (hd:∀σ H,Pv n σ H→D.nx σ H):
  ∃W:Nat→Nat→St→Hp→Prop,(∃m,W 0 m σ H)∧∀i m σ H,W i m σ H→
   ((Itc lo c n).stop i H∧D.nx σ H)∨((Itc lo c n).go i H∧∃N:St→Hp→Prop,(∀σ' H',N σ' H'→∃m',m'<m∧W (i+1) m' σ' H')∧∀x H',(Itc lo c n).yld i H x H'→g x σ H' fun σ2 H2=>tb { D with nx:=N,ct:=N,bk:=D.nx } σ2 H2):=by
 refine ⟨fun i m σ H=>m=n-i∧i≤n∧Pv i σ H,⟨n,by simp,Nat.zero_le _,h0⟩,?_⟩
 rintro i m σ H ⟨rfl,hi,p⟩
 by_cases hlt:i<n
 ·refine .inr ⟨hlt,Pv (i+1),fun σ' H' p'=>⟨n-(i+1),by omega,rfl,hlt,p'⟩,fun x H' y=>?_⟩
  obtain ⟨e,y⟩:=y
  subst e y
  exact hs i σ _ hlt p
 ·have e:i=n:=by omega
  subst e
  exact .inl ⟨Nat.le_refl _,hd σ H p⟩
def Itv (K:PySem.W.Frag) (a:Addr) (n:Nat):It:=
 ⟨fun i H=>i<n∧∃(xs:List V) (x:V),SqL K H a xs∧xs[n-1-i]?=some x,fun i H x H'=>H'=H∧∀xs,SqL K H a xs→xs[n-1-i]?=some x,fun i _=>n≤i⟩
theorem turn_rev {P:Program} {w:World} {K:PySem.W.Frag} {tg:Expr} (a it:Addr) (n:Nat):Turn P w K tg (Itv K a n) [it] it (fun i h=>i≤n∧h.IsRevIter it a ((n:Int)-1-(i:Nat))) where
 mem:=by simp
 obj:=fun i h st b hb=>by
  have e:b=it:=by simpa using hb
  subst e
  obtain ⟨_,o,e,c,d⟩:=st
  exact ⟨o,e,fun v z=>by rw[d] at z;cases z⟩
 keep:=fun i h h' st k=>⟨st.1,st.2.at fun o e=>k it (by simp) o e⟩
 item:=by
  intro X hP hw hK hc i pins s σ H E I hf st hg
  subst hP hw hK
  obtain ⟨hin,xs,x,hq,hx⟩:=hg
  obtain ⟨its,rv,p,hz⟩:=I.list hq
  obtain ⟨u,hu,ru⟩:=rv.get hx
  obtain ⟨f0,f1,f2,f3,f4,f5⟩:=hf it (by simp)
  obtain ⟨_,hit⟩:=st
  have e1:(n:Int)-1-((i:Nat):Int)=((n-1-i:Nat):Int):=by omega
  rw[e1] at hit
  refine wpAny_pyNext_rev_item hit p.isList (x:=u) (by simpa using hu) fun h' st' sb=>?_
  have e2:((n-1-i:Nat):Int)-1=(n:Int)-1-((i+1:Nat):Int):=by omega
  rw[e2] at st'
  have I1:Inv X pins σ H { s with heap:=h' }:=I.turned (t':=s.toks) (fun b o hb e=>(sb.2 b hb).trans e) f0 f1 f3 f4 f5
  obtain ⟨o,e,c,d⟩:=id st'
  exact ⟨u,rfl,go_of (s:={ s with heap:=h' }) e c d (by decide) ⟨x,H,I1,ru,⟨rfl,fun ys hy=>by rw[I.list_inj hy hq];exact hx⟩,⟨hin,st'⟩,fun b hb=>(hf b hb).1⟩⟩
 done:=by
  intro X hP hw hK hc i pins s σ H E I hf st hg
  subst hP hw hK
  obtain ⟨f0,f1,f2,f3,f4,f5⟩:=hf it (by simp)
  obtain ⟨hin,hit⟩:=st
  have hge:n≤i:=hg
  have e1:(n:Int)-1-((i:Nat):Int)=-1:=by omega
  rw[e1] at hit
  exact wpAny_pyNext_rev_end (I.ok.hd hc) hit fun h' eb=>⟨rfl,I.turned (t':=s.toks) (fun b o hb e=>eb b o hb e) f0 f1 f3 f4 f5⟩
 self:=fun A i s Q E st h=>wpAny_pyIter_revIter st.2 h
def iRev (K:PySem.W.Frag) (ta:TA):TI:=fun σ H R=>ta σ H fun vs H1=>∃(a:Addr) (xs:List V),vs=[.ref a]∧SqL K H1 a xs∧R (Itv K a xs.length) H1
section
variable {X:Cx} {tg:Expr}
theorem pi_reversed {e:Expr} {ta:TA} {p pos:Pos} (hg:Gl X "reversed") (hm:X.mg "reversed"=none) (ha:PA X [e] ta) (hs:starEach [e] X.env=[(false,eval e X.env)]:=by rfl):PI X tg (.Call (.Name "reversed" p) [e] [] pos) (iRev X.K ta):=by
 intro pins s σ H R I h
 refine Call_ (ld_blt I hg hm boot_reversed5 (PyProof.Rows.callWith_type1 (thn (ha pos pins s σ H _ I h) fun us s1 ⟨vs,H1,I1,r1,q1⟩=>?_) hs rfl))
 obtain ⟨a,xs,e,hq,q⟩:=q1
 subst e
 cases r1 with
 | cons r rr=>
  cases rr
  cases r
  obtain ⟨its,rv,p',hz⟩:=I1.list hq
  have hl:=rv.length
  have e1:((its.toArray.size:Nat):Int)-1=(xs.length:Int)-1-((0:Nat):Int):=by simp only[List.size_toArray];omega
  refine call_reversed_list p'.isList (wpAny_pyIter_revIter (l:=a) (i:=((its.toArray.size:Nat):Int)-1) ⟨_,Heap.get?_push_size _ rfl,rfl,rfl⟩ ?_)
  refine pi_one (tk:=s1.toks) I1 _ (turn_rev a _ xs.length) ⟨Nat.zero_le _,?_⟩ q
  rw[← e1]
  exact ⟨_,Heap.get?_push_size _ rfl,rfl,rfl⟩
end
section
variable {prog:Program} {w:World} {A:Around} {E:Value→Shared→Prop} {s:Shared}
theorem iter_keys {d:Addr} {o:Obj} {es:Array DictEntry} {ep:Nat} {Q:Value→Shared→Prop} (hd:(d==sysModules)=false) (ho:s.heap.get? d=some o) (hc:o.ExactDict) (hdat:o.data=.dict es ep)
  (hQ:Q (.ref s.heap.objs.size) { s with heap:=s.heap.push { cls:=.type "dict_keyiterator",data:=.fields #[.ref d,.int 0 0,.int es.size 0,.int ep 0] } }):
  wpAny (model prog w) A (pyIter (.ref d)) Q E s:=by
 have hT:s.TypeIs (.ref d) "dict":=⟨o,ho,hc.1⟩
 refine wpAny_pyIter_slot hT F.slot_dict_iter (wpAny_call_entry F.slot_dict_iter hT F.entry_dict_iter ?_ (F.args_dict_iter_1 _))
 unfold Builtin.«dict.__iter__»
 refine wpAny_bind ?_
 unfold Builtin.Dict.dictSlotNone
 refine wpAny_bind (wpAny_notOrdered_dict hT ?_)
 show wpAny _ _ (pure (Value.ref d)) _ _ s
 refine wpAny_pure ?_
 show wpAny _ _ (Builtin.Dict.showsAll d >>= _) _ _ s
 unfold Builtin.Dict.showsAll
 rw[if_neg (by rw[hd];exact Bool.false_ne_true)]
 refine wpAny_bind (wpAny_pure ?_)
 refine wpAny_bind (wpAny_dictEntries ho hdat ?_)
 refine wpAny_bind (wpAny_dictEpoch ho hdat ?_)
 refine wpAny_bind (wpAny_newObj_type (wpAny_pure ⟨_,rfl,"dict_keyiterator",_,⟨_,Heap.get?_push_size _ rfl,rfl⟩,F.slot_dict_keyiterator_next.lookup,?_⟩))
 simpa[rawInt] using hQ
theorem next_key_item {it d:Addr} {i n ep:Nat} {od:Obj} {es:Array DictEntry} {en:DictEntry} {Q:Option Value→Shared→Prop} (hit:s.heap.IsKeyIter it d i n ep) (hod:s.heap.get? d=some od) (hdd:od.data=.dict es ep)
  (hsz:es.size=n) (hx:es[i]?=some en) (hQ:∀h',h'.IsKeyIter it d (i+1) n ep→Heap.SameBut it s.heap h'→Q (some en.key) { s with heap:=h' }):wpAny (model prog w) A (pyNext (.ref it)) Q E s:=by
 obtain ⟨o,ho,hc,hd⟩:=id hit
 unfold pyNext
 refine wpAny_bind (wpAny_attempt (wpAny_callSpecial?_slot (name:=Str.ofString "__next__") hit.typeIs F.slot_dict_keyiterator_next
  (wpAny_call_entry F.slot_dict_keyiterator_next hit.typeIs F.entry_dict_keyiterator_next ?_ (F.args_dict_keyiterator_next_1 _))))
 refine wpAny_bind (wpAny_pure ?_)
 refine wpAny_bind ?_
 refine wpAny_bind ?_
 first|refine wpAny_bind (wpAny_typeNameOfWhole_keyiter hit.typeIs (wpAny_pure ?_))|refine wpAny_bind (wpAny_typeNameOf_keyiter hit.typeIs (wpAny_pure ?_))
 refine wpAny_bind (wpAny_fieldsOf ho hd ?_)
 have hown:Builtin.Dict_items.ownsTuple "dict_keyiterator"=false:=by decide
 simp only[hown,Bool.false_eq_true,if_false]
 show wpAny _ _ (if (Value.ref d==Value.none)=true then _ else _) _ _ s
 rw[if_neg (show ¬ ((Value.ref d==Value.none)=true) from Bool.false_ne_true)]
 refine wpAny_bind (wpAny_pure ?_)
 refine wpAny_bind (wpAny_dictEntries hod hdd ?_)
 rw[if_neg (by rw[hsz];simp)]
 refine wpAny_bind (wpAny_pure ?_)
 refine wpAny_bind (wpAny_dictEpoch hod hdd ?_)
 rw[if_neg (by simp)]
 refine wpAny_pure ?_
 obtain ⟨hlt',hen⟩:=Array.getElem?_eq_some_iff.mp hx
 simp only[show ¬ ((i:Int)<0) from by omega,if_false,Int.toNat_natCast,Array.getElem?_eq_getElem hlt']
 refine wpAny_bind ?_
 first|refine wpAny_bind (wpAny_typeNameOfWhole_keyiter hit.typeIs (wpAny_pure ?_))|refine wpAny_bind (wpAny_typeNameOf_keyiter hit.typeIs (wpAny_pure ?_))
 refine wpAny_bind (wpAny_isOneOf_keyiter hit.typeIs ?_)
 show wpAny _ _ (setField (.ref it) 1 (rawInt ((i:Int)+1)) >>= _) _ _ s
 refine wpAny_bind (wpAny_setField ho hd (by simp) ?_)
 have hit':(s.heap.update it (Obj.mapFields (·.setIfInBounds 1 (rawInt ((i:Int)+1))))).IsKeyIter it d (i+1) n ep:=
  ⟨_,Heap.get?_update_self _ ho (Obj.isFreed_of_fields (Obj.data_mapFields hd _)),(Obj.cls_mapFields ..).trans hc,by rw[Obj.data_mapFields hd];simp[rawInt]⟩
 refine wpAny_bind (wpAny_holding ?_)
 refine wpAny_bind (wpAny_isOneOf_keyiter (s:={ s with heap:=s.heap.update it (Obj.mapFields (·.setIfInBounds 1 (rawInt ((i:Int)+1)))) }) hit'.typeIs ?_)
 show wpAny _ _ (pure es[i].key) _ _ _
 rw[hen]
 exact wpAny_pure (wpAny_pure ⟨_,rfl,wpAny_pure (hQ _ hit' (Heap.SameBut.update ..))⟩)
theorem next_key_end {it d:Addr} {i n ep:Nat} {od:Obj} {es:Array DictEntry} {Q:Option Value→Shared→Prop} (hh:A.handled=none) (hit:s.heap.IsKeyIter it d i n ep) (hod:s.heap.get? d=some od) (hdd:od.data=.dict es ep)
  (hsz:es.size=n) (hge:n≤i) (hQ:∀h',Heap.ExtBut it s.heap h'→Q none { s with heap:=h' }):wpAny (model prog w) A (pyNext (.ref it)) Q E s:=by
 obtain ⟨o,ho,hc,hd⟩:=id hit
 unfold pyNext
 refine wpAny_bind (wpAny_attempt (wpAny_callSpecial?_slot (name:=Str.ofString "__next__") hit.typeIs F.slot_dict_keyiterator_next
  (wpAny_call_entry F.slot_dict_keyiterator_next hit.typeIs F.entry_dict_keyiterator_next ?_ (F.args_dict_keyiterator_next_1 _))))
 refine wpAny_bind (wpAny_pure ?_)
 refine wpAny_bind ?_
 refine wpAny_bind ?_
 first|refine wpAny_bind (wpAny_typeNameOfWhole_keyiter hit.typeIs (wpAny_pure ?_))|refine wpAny_bind (wpAny_typeNameOf_keyiter hit.typeIs (wpAny_pure ?_))
 refine wpAny_bind (wpAny_fieldsOf ho hd ?_)
 have hown:Builtin.Dict_items.ownsTuple "dict_keyiterator"=false:=by decide
 simp only[hown,Bool.false_eq_true,if_false]
 show wpAny _ _ (if (Value.ref d==Value.none)=true then _ else _) _ _ s
 rw[if_neg (show ¬ ((Value.ref d==Value.none)=true) from Bool.false_ne_true)]
 refine wpAny_bind (wpAny_pure ?_)
 refine wpAny_bind (wpAny_dictEntries hod hdd ?_)
 rw[if_neg (by rw[hsz];simp)]
 refine wpAny_bind (wpAny_pure ?_)
 refine wpAny_bind (wpAny_dictEpoch hod hdd ?_)
 rw[if_neg (by simp)]
 refine wpAny_pure ?_
 have hge':es.size≤i:=by rw[hsz];exact hge
 simp only[show ¬ ((i:Int)<0) from by omega,if_false,Int.toNat_natCast,Array.getElem?_eq_none hge']
 refine wpAny_bind ?_
 first|refine wpAny_bind (wpAny_typeNameOfWhole_keyiter hit.typeIs (wpAny_pure ?_))|refine wpAny_bind (wpAny_typeNameOf_keyiter hit.typeIs (wpAny_pure ?_))
 show wpAny _ _ (setField (.ref it) 0 .none >>= _) _ _ s
 refine wpAny_bind (wpAny_setField ho hd (by simp) ?_)
 show wpAny _ _ (newExc (.type "StopIteration") [] >>= _) _ _ _
 refine wpAny_bind ?_
 simp only[newExc,newTuple]
 refine wpAny_bind (wpAny_newObj_type ?_ (by size_fits))
 refine wpAny_bind (m:=firstArgMember _ _) (wpAny_of_eq (a:=Value.none) (by first|rfl|(simp only[firstArgMember];rfl)) ?_)
 refine wpAny_newObj_type ?_ (by size_fits)
 simp only[raiseNew]
 refine wpAny_bind (wpAny_handled ?_)
 rw[show A.in1.handled=none from hh]
 refine wpAny_bind (wpAny_pure (wpAny_throw ?_))
 refine wpAny_bind (wpAny_isInstance (T:="StopIteration") (b:=true) ⟨_,Heap.get?_push_size _ rfl,rfl⟩ isSubtype_stop ?_)
 exact wpAny_pure (hQ _ (((Heap.SameBut.update ..).extBut.push _).push _))
end
theorem Xr {α β:Type} {G:α→β→Prop} {l₁:List α} {l₂:List β} (h:Paired G l₁ l₂):∀{i:Nat} {a:α},l₁[i]?=some a→∃b,l₂[i]?=some b∧G a b:=by
 induction h with
 | nil=>intro i a e;simp at e
 | @cons a b l₁ l₂ r t ih=>
  intro i a' e
  cases i with
  | zero=>
   simp only[List.getElem?_cons_zero,Option.some.injEq] at e
   subst e
   exact ⟨b,rfl,r⟩
  | succ j=>
   simp only[List.getElem?_cons_succ] at e ⊢
   exact ih e
section
variable {X:Cx} {pins:List (Addr×Obj)} {σ:St} {H:Hp} {s:Shared} {d:Addr} {o:Obj}
end
section
variable {P:Program} {w:World} {K:PySem.W.Frag} {tg:Expr} {d:Addr} {o:Obj} {es:Array DictEntry} {ep:Nat}
end
section
variable {X:Cx} {tg e:Expr} {td:TE} {apos cpos:Pos}
end
def Ite (K:PySem.W.Frag) (a:Addr):It:=
 ⟨fun i H=>∃(xs:List V) (x:V),SqL K H a xs∧xs[i]?=some x,fun i H v H'=>∃T x,v=.ref T∧H T=none∧H'=upd H T (.tup [.int (i:Nat),x])∧∀xs,SqL K H a xs→xs[i]?=some x,fun i H=>∃xs:List V,SqL K H a xs∧xs.length≤i⟩
theorem turn_enum {P:Program} {w:World} {K:PySem.W.Frag} {elts:List Expr} {kk:Nat} {tpos:Pos} (a e it:Addr):
  Turn P w K (.Tuple elts kk tpos) (Ite K a) [e,it] e (fun i h=>(∃old,IsEnum h e it ((i:Nat):Int) old)∧h.IsListIter it a i∧e≠it) where
 mem:=by simp
 obj:=fun i h st b hb=>by
  obtain ⟨⟨old,he⟩,⟨o,ho,hc,hd⟩,_⟩:=st
  have e':b=e∨b=it:=by simpa using hb
  rcases e' with z|z
  ·rw[z];exact ⟨_,he,fun v q=>nomatch q⟩
  ·rw[z];exact ⟨o,ho,fun v q=>by rw[hd] at q;cases q⟩
 keep:=fun i h h' st k=>let ⟨⟨old,he⟩,hi,hne⟩:=st;⟨⟨old,k e (by simp) _ he⟩,hi.at fun o q=>k it (by simp) o q,hne⟩
 item:=by
  intro X hP hw hK hc i pins s σ H E I hf st hg
  subst hP hw hK
  obtain ⟨⟨old,he⟩,hit,hne⟩:=st
  obtain ⟨xs,x,hq,hx⟩:=hg
  obtain ⟨its,rv,p,hz⟩:=I.list hq
  obtain ⟨u,hu,ru⟩:=rv.get hx
  have hel:e<s.heap.objs.size:=Heap.lt_size he
  have hil:it<s.heap.objs.size:=by obtain ⟨_,q,_⟩:=hit;exact Heap.lt_size q
  refine wpAny_pyNext_enum_item he hit p.isList (x:=u) (by simpa using hu) hne fun h' ho hit' hT hsz hk=>?_
  refine ⟨_,rfl,wpAny_letOwnedTupleGo_enum (s:={ s with heap:=h',toks:=s.toks+1 }) ho fun h'' he' sb=>?_⟩
  have hT2:h''.get? s.heap.objs.size=some { cls:=.type "tuple",data:=.seq #[.int i s.toks,u] }:=(sb.2 _ (Nat.ne_of_gt hel)).trans hT
  have new:ObjOk X.prog X.w (upd H s.heap.objs.size (.tup [.int (i:Nat),x])) h'' s.heap.objs.size (.tup [.int (i:Nat),x]):=
   ⟨by show 2≤sizeLine;decide,[.int i s.toks,u],.cons ⟨_,rfl⟩ (.cons ru .nil),⟨_,hT2,rfl,_,rfl⟩⟩
  have I1:Inv X pins σ (upd H s.heap.objs.size (.tup [.int (i:Nat),x])) { s with heap:=h'',toks:=s.toks+1 }:=
   I.turnedNew (ch:=[e,it]) (fun b ob hb q=>(sb.2 b (fun z=>hb (by simp[z]))).trans (hk b ob (fun z=>hb (by simp[z])) (fun z=>hb (by simp[z])) q)) hf (Nat.le_refl _) new
  refine ⟨.ref s.heap.objs.size,_,I1,rfl,⟨_,x,rfl,I.hok.fresh (Nat.le_refl _),rfl,fun ys hy=>by rw[I.list_inj hy hq];exact hx⟩,⟨⟨u,?_⟩,hit'.at fun o q=>(sb.2 it (Ne.symm hne)).trans q,hne⟩,fun b hb=>?_⟩
  ·have e1:((i+1:Nat):Int)=(i:Int)+1:=by omega
   rw[e1];exact he'
  ·have hb':b<s.heap.objs.size:=by
    have e':b=e∨b=it:=by simpa using hb
    rcases e' with z|z
    ·rw[z];exact hel
    ·rw[z];exact hil
   rw[Zn (Nat.ne_of_lt hb')]
   exact (hf b hb).1
 done:=by
  intro X hP hw hK hc i pins s σ H E I hf st hg
  subst hP hw hK
  obtain ⟨⟨old,he⟩,hit,hne⟩:=st
  obtain ⟨xs,hq,hx⟩:=hg
  obtain ⟨its,rv,p,hz⟩:=I.list hq
  obtain ⟨f0,f1,f2,f3,f4,f5⟩:=hf it (by simp)
  have hl:=rv.length
  exact wpAny_pyNext_enum_end (I.ok.hd hc) he hit p.isList (by simp;omega) fun h' eb=>⟨rfl,I.turned (t':=s.toks) (fun b o hb q=>eb b o hb q) f0 f1 f3 f4 f5⟩
 self:=fun A i s Q E st h=>let ⟨⟨_,he⟩,_⟩:=st;wpAny_pyIter_enum he h
def iEnum (K:PySem.W.Frag) (ta:TA):TI:=fun σ H R=>ta σ H fun vs H1=>∃a xs,vs=[.ref a]∧SqL K H1 a xs∧R (Ite K a) H1
theorem pi_enum {X:Cx} {e:Expr} {ta:TA} {p pos tpos:Pos} {elts:List Expr} {kk:Nat} (hg:Gl X "enumerate") (hm:X.mg "enumerate"=none) (ha:PA X [e] ta) (hs:starEach [e] X.env=[(false,eval e X.env)]:=by rfl):
  PI X (.Tuple elts kk tpos) (.Call (.Name "enumerate" p) [e] [] pos) (iEnum X.K ta):=by
 intro pins s σ H R I h
 refine Call_ (ld_blt I hg hm boot_enumerate (PyProof.Rows.callWith_type1 (thn (ha pos pins s σ H _ I h) fun us s1 ⟨vs,H1,I1,r1,q1⟩=>?_) hs rfl))
 obtain ⟨a,xs,ex,hq,q⟩:=q1
 subst ex
 cases r1 with
 | cons r rr=>
  cases rr
  cases r
  obtain ⟨its,rv,p',hz⟩:=I1.list hq
  refine call_enumerate_list p'.isList fun h' he hit hsz hk=>wpAny_pyIter_enum he ?_
  have I2:Inv X pins σ H1 { s1 with heap:=h' }:=I1.kept (t':=s1.toks) hk
  refine ⟨s1.heap.objs.size+1,[s1.heap.objs.size+1,s1.heap.objs.size],_,_,H1,rfl,I2,turn_enum a (s1.heap.objs.size+1) s1.heap.objs.size,⟨⟨.none,he⟩,hit,Nat.succ_ne_self _⟩,fun b hb=>?_,q⟩
  have e':b=s1.heap.objs.size+1∨b=s1.heap.objs.size:=by simpa using hb
  have hle:s1.heap.objs.size≤b:=by
   rcases e' with z|z
   ·rw[z];exact Nat.le_add_right _ _
   ·rw[z];exact Nat.le_refl _
  exact I1.fpOk hle (I1.hok.fresh hle)
theorem boot_zip5:bootBuiltins "zip"=some (.type "zip"):=by decide +kernel
def Itz (K:PySem.W.Frag) (a b:Addr):It:=
 ⟨fun i H=>∃(xs ys:List V) (x y:V),SqL K H a xs∧SqL K H b ys∧xs[i]?=some x∧ys[i]?=some y,
  fun i H v H'=>∃T x y,v=.ref T∧H T=none∧H'=upd H T (.tup [x,y])∧(∀xs,SqL K H a xs→xs[i]?=some x)∧∀ys,SqL K H b ys→ys[i]?=some y,
  fun i H=>∃xs ys:List V,SqL K H a xs∧SqL K H b ys∧(xs.length≤i∨ys.length≤i)⟩
theorem turn_zip {P:Program} {w:World} {K:PySem.W.Frag} {elts:List Expr} {kk:Nat} {tpos:Pos} {a b z TI TO i1 i2:Addr} (D:ZipApart z TI TO i1 i2 a b):
  Turn P w K (.Tuple elts kk tpos) (Itz K a b) [z,TI,TO,i1,i2] z (fun i h=>IsZip h z TI TO .none∧IsPair h TI (.ref i1) (.ref i2)∧(∃x y,IsPair h TO x y)∧h.IsListIter i1 a i∧h.IsListIter i2 b i) where
 mem:=by simp
 obj:=fun i h st c hc=>by
  obtain ⟨hz,hTI,⟨x,y,hTO⟩,⟨o1,e1,_,d1⟩,⟨o2,e2,_,d2⟩⟩:=st
  have e':c=z∨c=TI∨c=TO∨c=i1∨c=i2:=by simpa using hc
  rcases e' with q|q|q|q|q
  ·rw[q];exact ⟨_,hz,fun v q=>nomatch q⟩
  ·rw[q];exact ⟨_,hTI,fun v q=>nomatch q⟩
  ·rw[q];exact ⟨_,hTO,fun v q=>nomatch q⟩
  ·rw[q];exact ⟨o1,e1,fun v q=>by rw[d1] at q;cases q⟩
  ·rw[q];exact ⟨o2,e2,fun v q=>by rw[d2] at q;cases q⟩
 keep:=fun i h h' st k=>by
  obtain ⟨hz,hTI,⟨x,y,hTO⟩,h1,h2⟩:=st
  exact ⟨k z (by simp) _ hz,k TI (by simp) _ hTI,⟨x,y,k TO (by simp) _ hTO⟩,h1.at fun o q=>k i1 (by simp) o q,h2.at fun o q=>k i2 (by simp) o q⟩
 item:=by
  intro X hP hw hK hc i pins s σ H E I hf st hg
  subst hP hw hK
  obtain ⟨hz,hTI,⟨x0,y0,hTO⟩,h1,h2⟩:=st
  obtain ⟨xs,ys,x,y,hqx,hqy,hx,hy⟩:=hg
  obtain ⟨its,rv,p,_⟩:=I.list hqx
  obtain ⟨its2,rv2,p2,_⟩:=I.list hqy
  obtain ⟨u,hu,ru⟩:=rv.get hx
  obtain ⟨u2,hu2,ru2⟩:=rv2.get hy
  have hzl:z<s.heap.objs.size:=Heap.lt_size hz
  refine wpAny_pyNext_zip_item D hz hTI hTO h1 h2 p.isList p2.isList (x:=u) (y:=u2) (by simpa using hu) (by simpa using hu2) fun h' z' TO' h1' h2' hT hsz hk=>?_
  refine ⟨_,rfl,wpAny_letOwnedTupleGo_zip (s:={ s with heap:=h' }) z' fun h'' z'' sb=>?_⟩
  have hT2:h''.get? s.heap.objs.size=some { cls:=.type "tuple",data:=.seq #[u,u2] }:=(sb.2 _ (Nat.ne_of_gt hzl)).trans hT
  have new:ObjOk X.prog X.w (upd H s.heap.objs.size (.tup [x,y])) h'' s.heap.objs.size (.tup [x,y]):=
   ⟨by show 2≤sizeLine;decide,[u,u2],.cons ru (.cons ru2 .nil),⟨_,hT2,rfl,_,rfl⟩⟩
  have I1:Inv X pins σ (upd H s.heap.objs.size (.tup [x,y])) { s with heap:=h'' }:=
   I.turnedNew (t':=s.toks) (ch:=[z,TI,TO,i1,i2]) (fun c o hb q=>(sb.2 c (fun q'=>hb (by simp[q']))).trans (hk c o (fun q'=>hb (by simp[q'])) (fun q'=>hb (by simp[q'])) (fun q'=>hb (by simp[q'])) (fun q'=>hb (by simp[q'])) q)) hf (Nat.le_refl _) new
  refine ⟨.ref s.heap.objs.size,_,I1,rfl,⟨_,x,y,rfl,I.hok.fresh (Nat.le_refl _),rfl,fun l hl=>by rw[I.list_inj hl hqx];exact hx,fun l hl=>by rw[I.list_inj hl hqy];exact hy⟩,⟨z'',?_,⟨u,u2,?_⟩,?_,?_⟩,fun c hcm=>?_⟩
  ·exact (sb.2 _ D.TIz).trans (hk _ _ D.TIz D.TITO D.TIi1 D.TIi2 hTI)
  ·exact (sb.2 _ D.TOz).trans TO'
  ·exact h1'.at fun o q=>(sb.2 _ D.i1z).trans q
  ·exact h2'.at fun o q=>(sb.2 _ D.i2z).trans q
  ·have hlt:c<s.heap.objs.size:=by
    have e':c=z∨c=TI∨c=TO∨c=i1∨c=i2:=by simpa using hcm
    rcases e' with q|q|q|q|q
    ·rw[q];exact hzl
    ·rw[q];exact Heap.lt_size hTI
    ·rw[q];exact Heap.lt_size hTO
    ·rw[q];obtain ⟨_,e1,_⟩:=h1;exact Heap.lt_size e1
    ·rw[q];obtain ⟨_,e2,_⟩:=h2;exact Heap.lt_size e2
   rw[Zn (Nat.ne_of_lt hlt)]
   exact (hf c hcm).1
 done:=by
  intro X hP hw hK hc i pins s σ H E I hf st hg
  subst hP hw hK
  obtain ⟨hz,hTI,⟨x0,y0,hTO⟩,h1,h2⟩:=st
  obtain ⟨xs,ys,hqx,hqy,hend⟩:=hg
  obtain ⟨its,rv,p,_⟩:=I.list hqx
  obtain ⟨its2,rv2,p2,_⟩:=I.list hqy
  have l1:=rv.length
  have l2:=rv2.length
  have he:its.toArray[i]?=none∨its2.toArray[i]?=none:=by
   rcases hend with q|q
   ·exact .inl (by simp;omega)
   ·exact .inr (by simp;omega)
  exact wpAny_pyNext_zip_end (I.ok.hd hc) D hz hTI hTO h1 h2 p.isList p2.isList he fun h' hk=>⟨rfl,I.turnedL (t':=s.toks) (ch:=[z,TI,TO,i1,i2]) (fun c o hb q=>
   hk c o (fun q'=>hb (by simp[q'])) (fun q'=>hb (by simp[q'])) (fun q'=>hb (by simp[q'])) (fun q'=>hb (by simp[q'])) q) hf⟩
 self:=fun A i s Q E st h=>wpAny_pyIter_zip st.1 h
def iZip (K:PySem.W.Frag) (ta:TA):TI:=fun σ H R=>ta σ H fun vs H1=>∃a b xs ys,vs=[.ref a,.ref b]∧SqL K H1 a xs∧SqL K H1 b ys∧R (Itz K a b) H1
theorem pi_zip {X:Cx} {e e2:Expr} {ta:TA} {p pos tpos:Pos} {elts:List Expr} {kk:Nat} (hg:Gl X "zip") (hm:X.mg "zip"=none) (ha:PA X [e,e2] ta)
  (hs:starEach [e,e2] X.env=(false,eval e X.env)::starEach [e2] X.env:=by rfl) (hpl:(backTo pos (starEach [e2] X.env)).any (·.1)=false:=by rfl):
  PI X (.Tuple elts kk tpos) (.Call (.Name "zip" p) [e,e2] [] pos) (iZip X.K ta):=by
 intro pins s σ H R I h
 refine Call_ (ld_blt I hg hm boot_zip5 (PyProof.Rows.callWith_type1 (thn (ha pos pins s σ H _ I h) fun us s1 ⟨vs,H1,I1,r1,q1⟩=>?_) hs hpl))
 obtain ⟨a,b,xs,ys,ex,hqx,hqy,q⟩:=q1
 subst ex
 cases r1 with
 | cons r rr=>
  cases rr with
  | cons r' rr=>
   cases rr
   cases r
   cases r'
   obtain ⟨its,rv,p1,_⟩:=I1.list hqx
   obtain ⟨its2,rv2,p2,_⟩:=I1.list hqy
   have la:a<s1.heap.objs.size:=p1.lt
   have lb:b<s1.heap.objs.size:=p2.lt
   refine call_zip_2 p1.isList p2.isList fun h' hz hTI hTO h1 h2 hsz hk=>wpAny_pyIter_zip hz ?_
   have I2:Inv X pins σ H1 { s1 with heap:=h' }:=I1.kept (t':=s1.toks) hk
   refine ⟨s1.heap.objs.size+4,[s1.heap.objs.size+4,s1.heap.objs.size+2,s1.heap.objs.size+3,s1.heap.objs.size,s1.heap.objs.size+1],_,_,H1,rfl,I2,turn_zip (PySem.W.ktu_apart s1.heap.objs.size a b la lb),⟨hz,hTI,⟨_,_,hTO⟩,h1,h2⟩,fun c hcm=>?_,q⟩
   have e':c=s1.heap.objs.size+4∨c=s1.heap.objs.size+2∨c=s1.heap.objs.size+3∨c=s1.heap.objs.size∨c=s1.heap.objs.size+1:=by simpa using hcm
   have hle:s1.heap.objs.size≤c:=by
    rcases e' with z|z|z|z|z
    ·rw[z];exact Nat.le_add_right _ _
    ·rw[z];exact Nat.le_add_right _ _
    ·rw[z];exact Nat.le_add_right _ _
    ·rw[z];exact Nat.le_refl _
    ·rw[z];exact Nat.le_add_right _ _
   exact I1.fpOk hle (I1.hok.fresh hle)
end L2
section
namespace Bits
open PySem PyProof.Rows
theorem nat_xor_add_and (m:Nat):∀n:Nat,(m ^^^ n)+2*(m &&& n)=m+n:=by
 induction m using Nat.strongRecOn with
 | _ m ih=>
  intro n
  by_cases h0:m=0
  ·subst h0
   simp
  ·have ih':=ih (m/2) (by omega) (n/2)
   rw[← Nat.xor_div_two,← Nat.and_div_two] at ih'
   have o1:=@Nat.xor_mod_two_eq_one m n
   have a1:=@Nat.and_mod_two_eq_one m n
   omega
theorem bitXor_pp {x y:Int} (hx:0≤x) (hy:0≤y):Builtin.bitXor x y=((x.toNat ^^^ y.toNat:Nat):Int):=by
 have e:=nat_xor_add_and x.toNat y.toNat
 rw[bitXor_and,bitAnd_pp hx hy]
 omega
theorem bitOr_pp {x y:Int} (hx:0≤x) (hy:0≤y):Builtin.bitOr x y=((x.toNat ||| y.toNat:Nat):Int):=by
 have e:=nat_or_add_and x.toNat y.toNat
 rw[bitOr_and,bitAnd_pp hx hy]
 omega
end Bits
end
section
namespace TL
open PySem PySem.Builtin PySem.Builtin.Str PySem.StrLaws
end TL
end
namespace L2
open PySem PySem.Spec PyProof.Rows
section
variable {X:Cx} {pins:List (Addr×Obj)} {σ:St} {H:Hp} {s:Shared} {Q:VK}
end
section
variable {X:Cx}
end
section
variable {X:Cx} {o e:Expr} {to te:TE}
end
section
variable {X:Cx}
end
end L2
namespace Att
open PySem PySem.W PySem.Calls PyProof.Rows
theorem ints_of_wellAll {P:Params} {h:Heap}:∀(ns:List Int) (vs:List Value),WellAll P h vs (ns.map WData.int)→IntsAre vs ns:=by
 intro ns
 induction ns with
 | nil=>
  intro vs w
  rw[List.map_nil] at w
  cases w
  exact .nil
 | cons n ns ih=>
  intro vs w
  rw[List.map_cons] at w
  cases w with
  | cons a b=>
   cases a
   exact .cons _ _ (ih _ b)
section
variable {prog:Program} {w:World} {A:Around} {E:Value→Shared→Prop} {s:Shared} {K:Frag}
end
end Att
namespace L2
open PySem PySem.Spec PyProof.Rows
theorem vals_ints:∀{vs:List Value} {ns:List Int},IntsAre vs ns→Vals (ns.map V.int) vs
 | _,_,.nil=>.nil
 | _,_,.cons n t h=>.cons ⟨t,rfl⟩ (vals_ints h)
def Only (H:Hp):Prop:=∀b,H b=none∨∃o xs,H b=some (.frz o (.lst xs))
def Qw (s:Stmt) (j:Nat):Stmt:=match s with
 | .ClassDef _ _ _ body _ _ _ _ _ _ _=>body.getD j (.Pass ⟨0,0,0,0⟩)
 | _=>.Pass ⟨0,0,0,0⟩
def defArgs (s:Stmt):Arguments:=match s with
 | .FunctionDef _ a _ _ _ _ _ _ _ _=>a
 | _=>{ posonlyargs:=[],args:=[],vararg:=none,kwonlyargs:=[],kw_defaults:=[],kwarg:=none,defaults:=[] }
def defBody (s:Stmt):List Stmt:=match s with
 | .FunctionDef _ _ b _ _ _ _ _ _ _=>b
 | _=>[]
def Qs (s:Stmt):Scope:=match s with
 | .FunctionDef _ _ _ _ _ _ sc _ _ _=>sc
 | _=>{ kind:=.function,names:=[],isGenerator:=false,isCoroutine:=false }
abbrev CX0:CXT:=fun _ _ _ _ _ _=>False
abbrev E0:XK:=fun _ _ _=>False
theorem pass0 {X:Cx}:Passes CX0 X E0:=fun _ _ _ _ _ _ _ h=>h.elim
structure Fun (K:PySem.W.Frag) (x qual:Str) (st:Stmt) (f:Addr) (fd:FuncData):Prop where
 ex:∃(oc:Value) (od:Option Addr) (kV doc pm:Value) (an:Option Addr) (cdv ct:Value) (osl:Array (Option Value)),
  fd=PySem.W.fnOf x qual (defArgs st) (defBody st) (Qs st) .none kV doc pm an cdv ct∧K.lookup f=some ⟨oc,od,.func fd,osl⟩∧PySem.W.codeIn K cdv qual=true
 kp:PySem.W.keepIn K (.ref f)=true
section
variable {P:Program} {w:World} {K:PySem.W.Frag} {mg:Str→Option Value} {base:Heap}
theorem Fun.ok {x qual:Str} {st:Stmt} {f:Addr} {fd:FuncData} {N ps:List Str} {k:Nat} {sp:Sp} (F:Fun K x qual st f fd) (S:FnScope N ps (Qs st)) (len:∀vs H Q E,sp vs H Q E→vs.length=ps.length)
  (hbody:∀(cdv:Value) (A:Around) (outer:List Env) (s:Shared) (H:Hp) (vs:List V) (Q:VK) (E:XK),Room k (A.deeper (envOfC qual (Qs st) s.heap.objs.size f cdv))→sp vs H Q E→
   ∃t,PSs (cxOf CX0 P w K mg base N qual (Qs st) f cdv A outer s H E).nox (defBody st) t∧t { nx:=fun _ H'=>Q .non H',rt:=Q } (start N vs) H):FnOk P w K mg base CX0 (k+1) f fd ps sp:=by
 obtain ⟨oc,od,kV,doc,pm,an,cdv,ct,osl,rfl,lk,hcd⟩:=F.ex
 refine fn_of lk hcd S len fun A outer s H vs Q E hr hsp=>?_
 obtain ⟨t,h,q⟩:=hbody cdv A outer s H vs Q E hr hsp
 exact ⟨t,h.nox,q⟩
theorem Fun.binds {x qual:Str} {st:Stmt} {f:Addr} {fd:FuncData} {ps:List Str} (F:Fun K x qual st f fd)
  (h:∀(kV doc pm:Value) (an:Option Addr) (cdv ct:Value) (us:List Value),us.length=ps.length→bindArgs (PySem.W.fnOf x qual (defArgs st) (defBody st) (Qs st) .none kV doc pm an cdv ct) ⟨us,[]⟩=pure (ps.zip us)):Binds K fd ps []:=by
 obtain ⟨oc,od,kV,doc,pm,an,cdv,ct,osl,rfl,lk,hcd⟩:=F.ex
 exact .all (h kV doc pm an cdv ct)
theorem fun_mk {x qual:Str} {st:Stmt} {f:Addr} {oc:Value} {od an:Option Addr} {osl:Array (Option Value)} {kV doc pm cdv ct:Value} (l:K.lookup f=some ⟨oc,od,.func (PySem.W.fnOf x qual (defArgs st) (defBody st) (Qs st) .none kV doc pm an cdv ct),osl⟩)
  (c:PySem.W.codeIn K cdv qual=true) (k:PySem.W.keepIn K (.ref f)=true):Fun K x qual st f (PySem.W.fnOf x qual (defArgs st) (defBody st) (Qs st) .none kV doc pm an cdv ct):=⟨⟨oc,od,kV,doc,pm,an,cdv,ct,osl,rfl,l,c⟩,k⟩
end
theorem hu_of {A:Around} {k:Nat} (hr:Room k A):A.units+1<cLine:=Nat.lt_of_le_of_lt (Nat.add_le_add_left (by decide:1≤64) _) hr.units
section
variable {X:Cx}
theorem pv (i:Nat) {x:Str} {pos:Pos} (hN:X.N[i]?=some x:=by rfl) (hv:Vis X.env.scope x:=by first|exact Or.inl rfl|exact Or.inr (Or.inl rfl)|exact Or.inr (Or.inr rfl)) (hd:(x==("__debug__":Str))=false:=by decide)
  (hcd:(x==("__classdict__":Str))=false:=by decide):PE X (.Name x pos) (tVar i):=pe_var hN hv hd hcd
end
theorem iteF {A B:Prop} (h:B):if false=true then A else B:=by
 rw[if_neg Bool.false_ne_true]
 exact h
theorem iteT {A B:Prop} (h:A):if true=true then A else B:=by
 rw[if_pos rfl]
 exact h
theorem ite2 {c A B:Prop} [Decidable c] (h1:c→A) (h2:¬ c→B):if c then A else B:=by
 by_cases h:c
 ·rw[if_pos h]
  exact h1 h
 ·rw[if_neg h]
  exact h2 h
def Same (H H':Hp):Prop:=∀b o,H b=some o→H' b=some o
theorem Same.refl (H:Hp):Same H H:=fun _ _ h=>h
theorem Same.trans {H H1 H2:Hp} (a:Same H H1) (b:Same H1 H2):Same H H2:=fun c o h=>b c o (a c o h)
theorem Same.free {H H':Hp} (e:Same H H') {l:Addr} (h:H' l=Option.none):H l=Option.none:=by
 cases q:H l with
 | none=>rfl
 | some o=>
  rw[e l o q] at h
  cases h
theorem Same.seq {K:PySem.W.Frag} {H H':Hp} {a:Addr} {xs:List V} (e:Same H H') (h:SqL K H a xs):SqL K H' a xs:=by
 rcases h with (h|⟨o,h⟩)|h
 ·exact .inl (.inl (e _ _ h))
 ·exact .inl (.inr ⟨o,e _ _ h⟩)
 ·exact .inr h
section
variable {κ:Type} [DecidableEq κ]
end
end L2
namespace Kb
open PySem L2
abbrev nV (n:Nat):V:=.int (n:Int)
abbrev nats (l:List Nat):List V:=l.map nV
section
variable (P:Program) (w:World) (K:PySem.W.Frag) (mg:Str→Option Value) (base:Heap)
structure OkF (k:Nat) (x:Str) (ps:List Str) (sp:Sp):Prop where
 ex:∃(f:Addr) (fd:FuncData),mg x=some (.ref f)∧PySem.W.keepIn K (.ref f)=true∧FnOk P w K mg base CX0 k f fd ps sp∧Binds K fd ps []
structure OkM (k:Nat) (C:Addr) (m:Str) (ps:List Str) (sp:Sp):Prop where
 ex:∃(f:Addr) (fd:FuncData),Meth K C m f∧FnOk P w K mg base CX0 k f fd ps sp∧Binds K fd ps []
structure OkC (k:Nat) (C:Addr) (x:Str) (ps:List Str) (sp:Sp):Prop where
 ex:∃(f:Addr) (fd:FuncData),mg x=some (.ref C)∧Mk K C f∧FnOk P w K mg base CX0 k f fd ps sp∧Binds K fd ps []
def DefF (x:Str) (st:Stmt) (ps:List Str):Prop:=∃(f:Addr) (fd:FuncData),mg x=some (.ref f)∧PySem.W.keepIn K (.ref f)=true∧Fun K x x st f fd∧Binds K fd ps []
def DefM (C:Addr) (m qual:Str) (st:Stmt) (ps:List Str):Prop:=∃(f:Addr) (fd:FuncData),Meth K C m f∧Fun K m qual st f fd∧Binds K fd ps []
def DefC (C:Addr) (x qual:Str) (st:Stmt) (ps:List Str):Prop:=∃(f:Addr) (fd:FuncData),mg x=some (.ref C)∧Mk K C f∧Fun K "__init__" qual st f fd∧Binds K fd ps []
end
section
variable {P:Program} {w:World} {K:PySem.W.Frag} {mg:Str→Option Value} {base:Heap}
theorem okF {x:Str} {st:Stmt} {N ps:List Str} {k:Nat} {sp:Sp} (D:DefF K mg x st ps) (S:FnScope N ps (Qs st)) (len:∀vs H Q E,sp vs H Q E→vs.length=ps.length)
  (hbody:∀(f:Addr) (cdv:Value) (A:Around) (outer:List Env) (s:Shared) (H:Hp) (vs:List V) (Q:VK) (E:XK),Room k (A.deeper (PyProof.Rows.envOfC x (Qs st) s.heap.objs.size f cdv))→sp vs H Q E→
   ∃t,PSs (cxOf CX0 P w K mg base N x (Qs st) f cdv A outer s H E).nox (defBody st) t∧t { nx:=fun _ H'=>Q .non H',rt:=Q } (start N vs) H):OkF P w K mg base (k+1) x ps sp:=by
 obtain ⟨f,fd,h1,h2,F,b⟩:=D
 exact ⟨f,fd,h1,h2,F.ok S len fun cdv A outer s H vs Q E hr h=>hbody f cdv A outer s H vs Q E hr h,b⟩
theorem okM {C:Addr} {m qual:Str} {st:Stmt} {N ps:List Str} {k:Nat} {sp:Sp} (D:DefM K C m qual st ps) (S:FnScope N ps (Qs st)) (len:∀vs H Q E,sp vs H Q E→vs.length=ps.length)
  (hbody:∀(f:Addr) (cdv:Value) (A:Around) (outer:List Env) (s:Shared) (H:Hp) (vs:List V) (Q:VK) (E:XK),Room k (A.deeper (PyProof.Rows.envOfC qual (Qs st) s.heap.objs.size f cdv))→sp vs H Q E→
   ∃t,PSs (cxOf CX0 P w K mg base N qual (Qs st) f cdv A outer s H E).nox (defBody st) t∧t { nx:=fun _ H'=>Q .non H',rt:=Q } (start N vs) H):OkM P w K mg base (k+1) C m ps sp:=by
 obtain ⟨f,fd,h1,F,b⟩:=D
 exact ⟨f,fd,h1,F.ok S len fun cdv A outer s H vs Q E hr h=>hbody f cdv A outer s H vs Q E hr h,b⟩
theorem okC {C:Addr} {x qual:Str} {st:Stmt} {N ps:List Str} {k:Nat} {sp:Sp} (D:DefC K mg C x qual st ps) (S:FnScope N ps (Qs st)) (len:∀vs H Q E,sp vs H Q E→vs.length=ps.length)
  (hbody:∀(f:Addr) (cdv:Value) (A:Around) (outer:List Env) (s:Shared) (H:Hp) (vs:List V) (Q:VK) (E:XK),Room k (A.deeper (PyProof.Rows.envOfC qual (Qs st) s.heap.objs.size f cdv))→sp vs H Q E→
   ∃t,PSs (cxOf CX0 P w K mg base N qual (Qs st) f cdv A outer s H E).nox (defBody st) t∧t { nx:=fun _ H'=>Q .non H',rt:=Q } (start N vs) H):OkC P w K mg base (k+1) C x ps sp:=by
 obtain ⟨f,fd,h1,h2,F,b⟩:=D
 exact ⟨f,fd,h1,h2,F.ok S len fun cdv A outer s H vs Q E hr h=>hbody f cdv A outer s H vs Q E hr h,b⟩
end
section
variable {X:Cx} {k n:Nat} {C:Addr} {x m:Str} {ps:List Str} {sp:Sp} {p pos apos:Pos} {e o:Expr} {es:List Expr} {t:TA} {ta:TE}
theorem pf (G:OkF X.prog X.w X.K X.mg X.base k x ps sp) (hr:Room n X.A) (ha:PA X (e::es) t) (hk:k≤n:=by decide) (hg:Gl X x:=by rfl) (hdb:(x==("__debug__":Str))=false:=by decide)
  (he:starEach (e::es) X.env=(false,eval e X.env)::starEach es X.env:=by rfl) (hpl:(backTo pos (starEach es X.env)).any (·.1)=false:=by rfl):
  PE X (.Call (.Name x p) (e::es) [] pos) (tCall sp [] E0 t):=by
 obtain ⟨f,fd,hm,hkp,F,b⟩:=G.ex
 exact pe_call F (hr.mono hk) hg hm hkp b .nil pass0 ha hdb he hpl
theorem pm {pl:Sem Bool} (he:PE X o ta) (c:Cls X.K C) (G:OkM X.prog X.w X.K X.mg X.base k C m ps sp) (hr:Room n X.A) (ha:PA X (e::es) t) (hk:k≤n:=by decide)
  (hst:starEach (e::es) X.env=(false,eval e X.env)::starEach es X.env:=by rfl) (hpl:(backTo pos (starEach es X.env)).any (·.1)=false:=by rfl)
  (ht:eval (.Call (.Attribute o m apos) (e::es) [] pos) X.env=(do
   let ov ← eval o X.env
   standAt apos.atName
   let (f,first) ← holding [ov] (getMethod ov m pl)
   callWith pos f first (backTo pos (starEach (e::es) X.env)) (backToKw pos (keywordEach [] X.env))):=by rfl):
  PE X (.Call (.Attribute o m apos) (e::es) [] pos) (tMeth C m sp [] E0 ta t):=by
 obtain ⟨f,fd,hm,F,b⟩:=G.ex
 exact pe_meth he c hm F (hr.mono hk) b .nil pass0 ha hst hpl ht
theorem pm0 {pl:Sem Bool} (he:PE X o ta) (c:Cls X.K C) (G:OkM X.prog X.w X.K X.mg X.base k C m ps sp) (hr:Room n X.A) (hk:k≤n:=by decide)
  (ht:eval (.Call (.Attribute o m apos) [] [] pos) X.env=(do
   let ov ← eval o X.env
   standAt apos.atName
   let (f,first) ← holding [ov] (getMethod ov m pl)
   callWith pos f first (backTo pos (starEach [] X.env)) (backToKw pos (keywordEach [] X.env))):=by rfl):
  PE X (.Call (.Attribute o m apos) [] [] pos) (tMeth C m sp [] E0 ta tNil):=by
 obtain ⟨f,fd,hm,F,b⟩:=G.ex
 exact pe_meth0 he c hm F (hr.mono hk) b .nil pass0 ht
theorem pk (G:OkC X.prog X.w X.K X.mg X.base k C x ps sp) (hr:Room n X.A) (ha:PA X (e::es) t) (hk:k+1≤n:=by decide) (hg:Gl X x:=by rfl) (hdb:(x==("__debug__":Str))=false:=by decide)
  (he:starEach (e::es) X.env=(false,eval e X.env)::starEach es X.env:=by rfl) (hpl:(backTo pos (starEach es X.env)).any (·.1)=false:=by rfl):
  PE X (.Call (.Name x p) (e::es) [] pos) (tMake C sp [] E0 t):=by
 obtain ⟨f,fd,hm,M,F,b⟩:=G.ex
 exact pe_make M F (hr.mono hk) hg hm b .nil pass0 ha hdb he hpl
theorem pk0 (G:OkC X.prog X.w X.K X.mg X.base k C x ps sp) (hr:Room n X.A) (hk:k+1≤n:=by decide) (hg:Gl X x:=by rfl) (hdb:(x==("__debug__":Str))=false:=by decide):
  PE X (.Call (.Name x p) [] [] pos) (tMake C sp [] E0 tNil):=by
 obtain ⟨f,fd,hm,M,F,b⟩:=G.ex
 exact pe_make0 M F (hr.mono hk) hg hm b .nil pass0 hdb
theorem pgi {z:Int} (hg:Gl X x) (hm:∃t,X.mg x=some (.int z t)) (hd:(x==("__debug__":Str))=false:=by decide):PE X (.Name x pos) (tC (.int z)):=by
 obtain ⟨t,hm⟩:=hm
 exact pe_glob hg hm ⟨t,rfl⟩ hd
theorem pgt {a:Addr} (hg:Gl X x) (hm:X.mg x=some (.ref a)) (hd:(x==("__debug__":Str))=false:=by decide):PE X (.Name x pos) (tC (.ref a)):=pe_glob hg hm rfl hd
end
theorem hv_of {A:Around} {k:Nat} (hr:Room k A):A.units+64<cLine:=hr.units
theorem lcp {J:It} {g:TG} {te:TE} {vs:List Nat} {σ:St} {H1:Hp} {D:Addr} {Qd:Hp→Prop} {n:Nat} (out:Nat→V) (hn:n≤sizeLine) (hD:H1 D=none)
  (go:∀i H,i<n→Same H1 H→J.go i H) (stop:∀H,Same H1 H→J.stop n H)
  (hs:∀i H x H',i<n→Same H1 H→J.yld i H x H'→∀N:V→Hp→Prop,(∀H4,Same H H4→N (out i) H4)→g x (wipe σ vs) H' fun σ2 H2=>wipe σ2 vs=wipe σ vs∧te σ2 H2 N)
  (gm:∀x σ H (R R':St→Hp→Prop),(∀σ2 H2,R σ2 H2→R' σ2 H2)→g x σ H R→g x σ H R')
  (hd:∀H,Same H1 H→H D=some (.lst ((List.range n).map out))→Qd H):
  ∃W:Nat→Nat→Hp→Prop,(∃m,W 0 m (upd H1 D (.lst [])))∧∀i m H,W i m H→
   (J.stop i H∧Qd H)∨(J.go i H∧∃Nx:Hp→Prop,(∀H',Nx H'→∃m',m'<m∧W (i+1) m' H')∧∀x H',J.yld i H x H'→g x (wipe σ vs) H' fun σ2 H2=>wipe σ2 vs=wipe σ vs∧tYes σ2 H2 fun b H3=>
    if b=true then te σ2 H3 fun y H4=>∃acc,H4 D=some (.lst acc)∧acc.length<sizeLine∧Nx (upd H4 D (.lst (acc++[y]))) else Nx H3):=by
 let Pv:Nat→Hp→Prop:=fun i H=>Same H1 H∧H D=some (.lst ((List.range i).map out))
 refine ⟨fun i m H=>m=n-i∧i≤n∧Pv i H,⟨n,by simp,Nat.zero_le _,fun b o e=>?_,?_⟩,?_⟩
 ·rw[Zn (Zg e hD)];exact e
 ·exact Zc
 rintro i m H ⟨rfl,hi,s1,hH⟩
 by_cases hlt:i<n
 ·refine .inr ⟨go i H hlt s1,Pv (i+1),fun H' p'=>⟨n-(i+1),by omega,rfl,hlt,p'⟩,fun x H' y=>?_⟩
  refine gm _ _ _ _ _ (fun σ2 H2 h=>⟨h.1,?_⟩) (hs i H x H' hlt s1 y (fun y H4=>∃acc,H4 D=some (.lst acc)∧acc.length<sizeLine∧Pv (i+1) (upd H4 D (.lst (acc++[y])))) fun H4 s4=>?_)
  ·exact h.2
  ·refine ⟨_,s4 _ _ hH,?_,fun b o e=>?_,?_⟩
   ·rw[List.length_map,List.length_range];omega
   ·rw[Zn (Zg e hD)];exact s4 _ _ (s1 _ _ e)
   ·rw[Zc,List.range_succ,List.map_append];rfl
 ·have e:i=n:=by omega
  subst e
  exact .inl ⟨stop H s1,hd H s1 hH⟩
theorem gName_mono {i:Nat}:∀x σ H (R R':St→Hp→Prop),(∀σ2 H2,R σ2 H2→R' σ2 H2)→gName i x σ H R→gName i x σ H R':=fun _ _ _ _ _ h q=>h _ _ q
theorem gTup2_mono {K:PySem.W.Frag} {i j:Nat}:∀x σ H (R R':St→Hp→Prop),(∀σ2 H2,R σ2 H2→R' σ2 H2)→gTup K 2 (gCons (gName i) (gCons (gName j) gNil)) x σ H R→gTup K 2 (gCons (gName i) (gCons (gName j) gNil)) x σ H R':=by
 rintro x σ H R R' h ⟨a,xs,e,q,l,v,r,e1,v2,r2,e2,e3,q3⟩
 exact ⟨a,xs,e,q,l,v,r,e1,v2,r2,e2,e3,h _ _ q3⟩
theorem for_enum {K:PySem.W.Frag} {a:Addr} {xs:List V} {g:TG} {tb:TS} {D:Ends} {σ:St} {H:Hp} (Pv:Nat→St→Hp→Prop) (h0:Pv 0 σ H) (hl:∀i σ H,i≤xs.length→Pv i σ H→SqL K H a xs)
  (hs:∀i x σ H T,xs[i]?=some x→Pv i σ H→H T=none→g (.ref T) σ (upd H T (.tup [.int (i:Nat),x])) fun σ2 H2=>tb { D with nx:=Pv (i+1),ct:=Pv (i+1),bk:=D.nx } σ2 H2) (hd:∀σ H,Pv xs.length σ H→D.nx σ H):
  ∃W:Nat→Nat→St→Hp→Prop,(∃m,W 0 m σ H)∧∀i m σ H,W i m σ H→
   ((Ite K a).stop i H∧D.nx σ H)∨((Ite K a).go i H∧∃N:St→Hp→Prop,(∀σ' H',N σ' H'→∃m',m'<m∧W (i+1) m' σ' H')∧∀x H',(Ite K a).yld i H x H'→g x σ H' fun σ2 H2=>tb { D with nx:=N,ct:=N,bk:=D.nx } σ2 H2):=by
 refine ⟨fun i m σ H=>m=xs.length-i∧i≤xs.length∧Pv i σ H,⟨xs.length,by simp,Nat.zero_le _,h0⟩,?_⟩
 rintro i m σ H ⟨rfl,hi,p⟩
 have q:=hl i σ H hi p
 by_cases hlt:i<xs.length
 ·refine .inr ⟨⟨xs,xs[i],q,by simp[hlt]⟩,Pv (i+1),fun σ' H' p'=>⟨xs.length-(i+1),by omega,rfl,hlt,p'⟩,fun x H' y=>?_⟩
  obtain ⟨T,x',rfl,hT,rfl,y⟩:=y
  exact hs i x' σ _ T (y xs q) p hT
 ·have e:i=xs.length:=by omega
  subst e
  exact .inl ⟨⟨xs,q,Nat.le_refl _⟩,hd σ H p⟩
theorem for_rev {K:PySem.W.Frag} {a:Addr} {xs:List V} {g:TG} {tb:TS} {D:Ends} {σ:St} {H:Hp} (Pv:Nat→St→Hp→Prop) (h0:Pv 0 σ H) (hl:∀i σ H,i≤xs.length→Pv i σ H→SqL K H a xs)
  (hs:∀i x σ H,i<xs.length→xs[xs.length-1-i]?=some x→Pv i σ H→g x σ H fun σ2 H2=>tb { D with nx:=Pv (i+1),ct:=Pv (i+1),bk:=D.nx } σ2 H2) (hd:∀σ H,Pv xs.length σ H→D.nx σ H):
  ∃W:Nat→Nat→St→Hp→Prop,(∃m,W 0 m σ H)∧∀i m σ H,W i m σ H→
   ((Itv K a xs.length).stop i H∧D.nx σ H)∨((Itv K a xs.length).go i H∧∃N:St→Hp→Prop,(∀σ' H',N σ' H'→∃m',m'<m∧W (i+1) m' σ' H')∧∀x H',(Itv K a xs.length).yld i H x H'→g x σ H' fun σ2 H2=>tb { D with nx:=N,ct:=N,bk:=D.nx } σ2 H2):=by
 refine ⟨fun i m σ H=>m=xs.length-i∧i≤xs.length∧Pv i σ H,⟨xs.length,by simp,Nat.zero_le _,h0⟩,?_⟩
 rintro i m σ H ⟨rfl,hi,p⟩
 have q:=hl i σ H hi p
 by_cases hlt:i<xs.length
 ·refine .inr ⟨⟨hlt,xs,xs[xs.length-1-i],q,by rw[List.getElem?_eq_getElem]⟩,Pv (i+1),fun σ' H' p'=>⟨xs.length-(i+1),by omega,rfl,hlt,p'⟩,fun x H' y=>?_⟩
  obtain ⟨e,y⟩:=y
  subst e
  exact hs i x σ _ hlt (y xs q) p
 ·have e:i=xs.length:=by omega
  subst e
  exact .inl ⟨Nat.le_refl _,hd σ H p⟩
theorem wipe1 {σ:St} {j:Nat} {v:Option V}:wipe ((wipe σ [j]).set j v) [j]=wipe σ [j]:=by
 show ((σ.set j none).set j v).set j none=σ.set j none
 rw[List.set_set,List.set_set]
theorem wipe2 {σ:St} {i j:Nat} {v w:Option V}:wipe (((wipe σ [i,j]).set i v).set j w) [i,j]=wipe σ [i,j]:=by
 show (((((σ.set j none).set i none).set i v).set j w).set j none).set i none=(σ.set j none).set i none
 apply List.ext_getElem?
 intro k
 simp only[List.getElem?_set,List.length_set]
 by_cases h1:i=k<;>by_cases h2:j=k<;>simp[h1,h2]
section
variable {K:PySem.W.Frag} {te:TE} {σ:St} {H1:Hp} {D:Addr} {Qd:Hp→Prop} {j:Nat}
abbrev LcW (J:It) (g:TG) (te:TE) (vs:List Nat) (σ:St) (H1:Hp) (D:Addr) (Qd:Hp→Prop):Prop:=
 ∃W:Nat→Nat→Hp→Prop,(∃m,W 0 m (upd H1 D (.lst [])))∧∀i m H,W i m H→
  (J.stop i H∧Qd H)∨(J.go i H∧∃Nx:Hp→Prop,(∀H',Nx H'→∃m',m'<m∧W (i+1) m' H')∧∀x H',J.yld i H x H'→g x (wipe σ vs) H' fun σ2 H2=>wipe σ2 vs=wipe σ vs∧tYes σ2 H2 fun b H3=>
   if b=true then te σ2 H3 fun y H4=>∃acc,H4 D=some (.lst acc)∧acc.length<sizeLine∧Nx (upd H4 D (.lst (acc++[y]))) else Nx H3)
theorem lc_rng {lo:Int} {n:Nat} (out:Nat→V) (hn:n≤sizeLine) (hD:H1 D=none)
  (hs:∀i H,i<n→Same H1 H→∀N:V→Hp→Prop,(∀H4,Same H H4→N (out i) H4)→te ((wipe σ [j]).set j (some (.int (lo+i)))) H N)
  (hd:∀H,Same H1 H→H D=some (.lst ((List.range n).map out))→Qd H):LcW (Itr lo n) (gName j) te [j] σ H1 D Qd:=by
 refine lcp out hn hD (fun i H h _=>h) (fun H _=>Nat.le_refl _) ?_ gName_mono hd
 rintro i H x H' hi s1 ⟨rfl,rfl⟩ N hN
 exact ⟨wipe1,hs i _ hi s1 N hN⟩
theorem lc_rngC {lo c:Int} {n:Nat} (out:Nat→V) (hn:n≤sizeLine) (hD:H1 D=none)
  (hs:∀i H,i<n→Same H1 H→∀N:V→Hp→Prop,(∀H4,Same H H4→N (out i) H4)→te ((wipe σ [j]).set j (some (.int (lo+(i:Nat)*c)))) H N)
  (hd:∀H,Same H1 H→H D=some (.lst ((List.range n).map out))→Qd H):LcW (Itc lo c n) (gName j) te [j] σ H1 D Qd:=by
 refine lcp out hn hD (fun i H h _=>h) (fun H _=>Nat.le_refl _) ?_ gName_mono hd
 rintro i H x H' hi s1 ⟨rfl,rfl⟩ N hN
 exact ⟨wipe1,hs i _ hi s1 N hN⟩
theorem lc_lst {a:Addr} {xs:List V} (out:Nat→V) (hq:SqL K H1 a xs) (hn:xs.length≤sizeLine) (hD:H1 D=none)
  (hs:∀i H x,xs[i]?=some x→Same H1 H→∀N:V→Hp→Prop,(∀H4,Same H H4→N (out i) H4)→te ((wipe σ [j]).set j (some x)) H N)
  (hd:∀H,Same H1 H→H D=some (.lst ((List.range xs.length).map out))→Qd H):LcW (Itl K a) (gName j) te [j] σ H1 D Qd:=by
 refine lcp out hn hD (fun i H h s1=>⟨xs,xs[i],s1.seq hq,by simp[h]⟩) (fun H s1=>⟨xs,s1.seq hq,Nat.le_refl _⟩) ?_ gName_mono hd
 rintro i H x H' hi s1 ⟨rfl,y⟩ N hN
 exact ⟨wipe1,hs i _ x (y xs (s1.seq hq)) s1 N hN⟩
theorem lc_tpl {a:Addr} {xs:List V} (out:Nat→V) (hq:∀H,SqT K H a xs) (hn:xs.length≤sizeLine) (hD:H1 D=none)
  (hs:∀i H x,xs[i]?=some x→Same H1 H→∀N:V→Hp→Prop,(∀H4,Same H H4→N (out i) H4)→te ((wipe σ [j]).set j (some x)) H N)
  (hd:∀H,Same H1 H→H D=some (.lst ((List.range xs.length).map out))→Qd H):LcW (Itt K a) (gName j) te [j] σ H1 D Qd:=by
 refine lcp out hn hD (fun i H h s1=>⟨xs,xs[i],hq H,by simp[h]⟩) (fun H s1=>⟨xs,hq H,Nat.le_refl _⟩) ?_ gName_mono hd
 rintro i H x H' hi s1 ⟨rfl,y⟩ N hN
 exact ⟨wipe1,hs i _ x (y xs (hq _)) s1 N hN⟩
theorem lc_zip {i0:Nat} {a b:Addr} {xs ys:List V} (out:Nat→V) (hq:SqL K H1 a xs) (hq2:SqL K H1 b ys) (hn:min xs.length ys.length≤sizeLine) (hD:H1 D=none)
  (hs:∀i H x y,xs[i]?=some x→ys[i]?=some y→Same H1 H→∀N:V→Hp→Prop,(∀H4,Same H H4→N (out i) H4)→te (((wipe σ [i0,j]).set i0 (some x)).set j (some y)) H N)
  (hd:∀H,Same H1 H→H D=some (.lst ((List.range (min xs.length ys.length)).map out))→Qd H):LcW (Itz K a b) (gTup K 2 (gCons (gName i0) (gCons (gName j) gNil))) te [i0,j] σ H1 D Qd:=by
 refine lcp out hn hD (fun i H h s1=>⟨xs,ys,xs[i]'(by omega),ys[i]'(by omega),s1.seq hq,s1.seq hq2,by rw[List.getElem?_eq_getElem],by rw[List.getElem?_eq_getElem]⟩) (fun H s1=>⟨xs,ys,s1.seq hq,s1.seq hq2,by omega⟩) ?_ gTup2_mono hd
 rintro i H x H' hi s1 ⟨T,x',y',rfl,hT,rfl,h1,h2⟩ N hN
 have s2:Same H (upd H T (.tup [x',y'])):=fun b o e=>by rw[Zn (Zg e hT)];exact e
 exact ⟨T,_,rfl,SqT.of Zc,rfl,_,_,rfl,_,_,rfl,rfl,wipe2,hs i _ x' y' (h1 xs (s1.seq hq)) (h2 ys (s1.seq hq2)) (s1.trans s2) N fun H4 s4=>hN H4 (s2.trans s4)⟩
end
theorem to {Q:VK} {H:Hp} {a b:Int} (q:Q (.int b) H) (e:a=b):Q (.int a) H:=e▸q
theorem Zk {H:Hp} {p:Addr} {o:HO} (h:H p=none):Same H (upd H p o):=fun b u e=>by rw[Zn (Zg e h)];exact e
theorem bx (a b:Nat):Builtin.bitXor (a:Int) (b:Int)=((a ^^^ b:Nat):Int):=Bits.bitXor_pp (Int.natCast_nonneg _) (Int.natCast_nonneg _)
theorem bo (a b:Nat):Builtin.bitOr (a:Int) (b:Int)=((a ||| b:Nat):Int):=Bits.bitOr_pp (Int.natCast_nonneg _) (Int.natCast_nonneg _)
theorem ba (a b:Nat):Builtin.bitAnd (a:Int) (b:Int)=((a &&& b:Nat):Int):=by
 unfold Builtin.bitAnd
 simp
theorem sl (a k:Nat):(a:Int)*2^k=((a*2^k:Nat):Int):=by simp
theorem sr (a k:Nat):(a:Int)/2^k=((a/2^k:Nat):Int):=by simp
theorem at_n {l:List Nat} {z:Int} {j:Nat} (hj:j<l.length) (e:z=(j:Int)):atI (nats l) z=some (nV (l.getD j 0)):=by
 subst e
 refine atI_nat ?_
 rw[List.getElem?_map,List.getD_eq_getElem?_getD,List.getElem?_eq_getElem hj]
 rfl
theorem rix {K:PySem.W.Frag} {H:Hp} {Q:VK} {p:Addr} {l:List Nat} {z:Int} (j:Nat) (h:H p=some (.lst (nats l))) (e:z=(j:Int)) (hj:j<l.length) (q:Q (nV (l.getD j 0)) H):rIxL K (.ref p) (.int z) H Q:=
 ⟨p,_,z,_,rfl,rfl,SqL.of h,at_n hj e,q⟩
theorem rixT {K:PySem.W.Frag} {H:Hp} {Q:VK} {p:Addr} {l:List Nat} {z:Int} (j:Nat) (h:SqT K H p (nats l)) (e:z=(j:Int)) (hj:j<l.length) (q:Q (nV (l.getD j 0)) H):rIxT K (.ref p) (.int z) H Q:=
 ⟨p,_,z,_,rfl,rfl,h,at_n hj e,q⟩
theorem Yg {K:PySem.W.Frag} {H:Hp} {p:Addr} {xs:List V} (h:H p=some (.lst xs)):tyV K "list" (.ref p) H:=.inl ⟨rfl,xs,SqL.of h⟩
theorem rcat {H:Hp} {Q:VK} {p b:Addr} {xs zs:List V} (h:H p=some (.lst xs)) (h2:H b=some (.lst zs)) (hl:xs.length+zs.length≤sizeLine) (q:∀r,H r=none→Q (.ref r) (upd H r (.lst (xs++zs)))):rCat (.ref p) (.ref b) H Q:=⟨p,b,xs,zs,rfl,rfl,h,h2,hl,q⟩
theorem cut_n {l:List Nat} {i j:Nat} (hj:j≤l.length):cutV (nats l) (some (i:Int)) (some (j:Int))=nats ((l.drop i).take (j-i)):=by
 unfold cutV
 rw[HT.sIx_nat,HT.sIx_nat,List.length_map,Nat.min_eq_left hj,← List.map_drop,← List.map_take]
 by_cases h:i≤l.length
 ·rw[Nat.min_eq_left h]
 ·rw[Nat.min_eq_right (by omega),List.drop_of_length_le (Nat.le_refl _),List.drop_of_length_le (by omega)]
  simp
theorem rev_low (c n:Nat):(Md33.low c n).reverse=(List.range c).map fun i=>n/256^(c-1-i)%256:=by
 apply List.ext_getElem?
 intro i
 by_cases h:i<c
 ·rw[List.getElem?_reverse (by rw[Zy];exact h),Zy]
  unfold Md33.low
  rw[List.getElem?_map,List.getElem?_map,List.getElem?_range (by omega),List.getElem?_range h]
  rfl
 ·rw[List.getElem?_eq_none (by rw[List.length_reverse,Zy];omega),List.getElem?_eq_none (by simp;omega)]
def tailOf (n:Nat):List Nat:=(128::List.replicate ((119-n%64)%64) 0)++(Md33.low 8 (8*n)).reverse
theorem padded_tail (b:List Nat):Md33.padded b=b++tailOf b.length:=by
 unfold Md33.padded tailOf
 rw[List.append_assoc]
theorem rep_one (k:Nat) (v:V):(List.replicate k [v]).flatten=List.replicate k v:=by
 induction k with
 | zero=>rfl
 | succ k ih=>rw[List.replicate_succ,List.flatten_cons,ih];rfl
theorem nats_rep (k n:Nat):nats (List.replicate k n)=List.replicate k (nV n):=List.map_replicate
theorem Z2 (a b:List Nat):nats (a++b)=nats a++nats b:=List.map_append
theorem sz20 {n:Nat} (h:n≤1048576):n≤sizeLine:=by unfold sizeLine;omega
theorem szlt {n:Nat} (h:n<1048576):n<sizeLine:=by unfold sizeLine;omega
theorem Qt:sizeLine=16777216:=rfl
theorem Jd {l:List Nat} {i:Nat} (h:i<l.length):l[i]?=some (l.getD i 0):=by
 rw[List.getD_eq_getElem?_getD,List.getElem?_eq_getElem h];rfl
theorem Xx {l:List Nat} {i:Nat} {v:V} (h:(nats l)[i]?=some v):i<l.length∧v=nV (l.getD i 0):=by
 rw[List.getElem?_map] at h
 cases e:l[i]? with
 | none=>rw[e] at h;cases h
 | some x=>
  rw[e] at h
  refine ⟨(List.getElem?_eq_some_iff.mp e).1,?_⟩
  rw[List.getD_eq_getElem?_getD,e]
  exact (Option.some.inj h).symm
theorem rgc {c n:Nat} (h0:0<c) (hc:c<1000) (hn:c*n<2^40) {z:Int} (e:z=((c*n:Nat):Int)):RgC 0 z (c:Int) n:=by
 subst e
 have hs:Builtin.Range.rangeSize 0 ((c*n:Nat):Int) (c:Int)=(n:Int):=by
  unfold Builtin.Range.rangeSize
  rw[if_pos (by omega)]
  by_cases h:n=0
  ·subst h;simp
  ·have hp:0<c*n:=Nat.mul_pos h0 (by omega)
   rw[if_pos (by omega)]
   have e1:((c*n:Nat):Int)-0-1=(((c*(n-1)+(c-1):Nat)):Int):=by
    have:c*n=c*(n-1)+c:=by
     rw[← Nat.mul_succ];congr 1;omega
    omega
   rw[e1,← Int.natCast_ediv]
   have e2:(c*(n-1)+(c-1))/c=n-1:=by
    rw[Nat.mul_add_div h0,Nat.div_eq_of_lt (by omega),Nat.add_zero]
   rw[e2]
   omega
 have hnn:n≤c*n:=Nat.le_mul_of_pos_left n h0
 have fit:∀z:Int,0≤z→z<2^41→Builtin.Range.rangeFitsLong z=true:=fun z h1 h2=>by
  unfold Builtin.Range.rangeFitsLong
  simp
  omega
 refine ⟨by omega,by omega,?_,hs⟩
 unfold Builtin.Range.small
 rw[hs,fit 0 (by decide) (by decide),fit _ (by omega) (by omega),fit (c:Int) (by omega) (by omega),fit (n:Int) (by omega) (by omega),if_pos (by omega),fit _ (by omega) (by omega)]
 simp
theorem pg_tupK {X:Cx} {K:PySem.W.Frag} {pos:Pos} {es:List Expr} {k:Nat} {t:TGs} {n:Nat} (hK:X.K=K) (hc:X.calm=true) (h:PGs X es t)
  (hn:(assignEach es X.env).length=n:=by rfl) (hst:(assignEach es X.env).findIdx? (·.1)=none:=by rfl):PG X (.Tuple es k pos) (gTup K n t):=by
 subst hK
 exact pg_tup hc h hn hst
end Kb
namespace Kb
open PySem
theorem boot_list:bootBuiltins "list"=some (.type "list"):=by decide +kernel
theorem boot_tuple:bootBuiltins "tuple"=some (.type "tuple"):=by decide +kernel
theorem boot_sorted:bootBuiltins "sorted"=some (.builtin "sorted"):=by decide +kernel
end Kb
namespace Kb
open PySem L2
section
variable {X:Cx} {K:PySem.W.Frag}
theorem Zl (hK:X.K=K):IxR X (rIxL K):=by subst hK;exact ix_list
theorem ix_tupK (hK:X.K=K):IxR X (rIxT K):=by subst hK;exact ix_tup
theorem Z0 (hK:X.K=K):SlR X (rSlL K):=by subst hK;exact sl_list
theorem Zq (hK:X.K=K):CallR X (.builtin "len") (fun xs H Q=>∃p ys,xs=[.ref p]∧(SqL K H p ys∨SqT K H p ys)∧Q (.int ys.length) H):=by subst hK;exact call_len_seq
theorem call_listK (hK:X.K=K):CallR X (.type "list") (fun xs H Q=>∃p ys,xs=[.ref p]∧(SqL K H p ys∨SqT K H p ys)∧∀l,H l=none→Q (.ref l) (upd H l (.lst ys))):=by subst hK;exact call_list_of
theorem op_eqDK (hK:X.K=K) (hu:X.A.units+64<cLine):OpR X (compareOp .Eq) (rEqD K):=by subst hK;exact op_eqD hu
theorem op_neDK (hK:X.K=K) (hu:X.A.units+64<cLine):OpR X (compareOp .NotEq) (rNeD K):=by subst hK;exact op_neD hu
theorem Zi {e:Expr} {f:Str} {pos:Pos} {ta:TE} (hK:X.K=K) (he:PE X e ta) (hb:attributeBase e f X.env (eval e X.env)=eval e X.env):PE X (.Attribute e f pos) (tFld K ta f):=by subst hK;exact pe_fld he hb
theorem Ye {o value:Expr} {f:Str} {pos pos':Pos} {ta tv:TE} (hK:X.K=K) (ha:PE X o ta) (hv:PE X value tv) (hs:swapsWith value (some (.Attribute o f pos')) pos.line X.env=pure false):PS X (.Assign [.Attribute o f pos'] value pos) (sFld K ta tv f):=by subst hK;exact ps_fld ha hv hs
theorem ps_fldaugK {o value:Expr} {f:Str} {pos tpos:Pos} {ta tv:TE} {op:Operator} {rd:V→V→Hp→VK→Prop} (hK:X.K=K) (ha:PE X o ta) (hv:PE X value tv) (hop:InOp X op rd):PS X (.AugAssign (.Attribute o f tpos) op value pos) (sFldAug K ta tv rd f):=by subst hK;exact ps_fldaug ha hv hop
theorem Yu {o e:Expr} {es:List Expr} {to:TE} {t:TA} {name:Str} {apos cpos:Pos} {T id:String} {r:V→List V→Hp→VK→Prop} (hK:X.K=K) (pa:PlainAttrs T) (slot:Slot T name id) (hty:typeOf (.builtin id)=pure (.type "method_descriptor")) (hm:MtR X id r) (ho:PE X o to) (ha:PA X (e::es) t)
  (hbase:attributeBase o name X.env (eval o X.env)=eval o X.env:=by rfl)
  (hfew:((backTo cpos (starEach (e::es) X.env)).all (fun x=>!x.1)&&(backToKw cpos (keywordEach [] X.env)).all (fun x=>x.1.isSome)
   && decide ((e::es).length+([]:List Keyword).length+(if ([]:List Keyword).isEmpty then 0 else 1)<30))=true:=by rfl)
  (hline:(apos.endLine==cpos.line)=true:=by rfl) (hs:starEach (e::es) X.env=(false,eval e X.env)::starEach es X.env:=by rfl) (hplain:(backTo cpos (starEach es X.env)).any (·.1)=false:=by rfl):
  PE X (.Call (.Attribute o name apos) (e::es) [] cpos) (tBM K T r to t):=by subst hK;exact pe_bm pa slot hty hm ho ha hbase hfew hline hs hplain
end
theorem cut_from {l:List Nat} {i:Nat}:cutV (nats l) (some (i:Int)) none=nats (l.drop i):=by
 unfold cutV
 rw[HT.sIx_nat,HT.sIx_none,List.length_map,← List.map_drop,← List.map_take]
 by_cases h:i≤l.length
 ·rw[Nat.min_eq_left h,List.take_of_length_le (by rw[List.length_drop];exact Nat.le_refl _)]
 ·rw[Nat.min_eq_right (by omega),List.drop_of_length_le (Nat.le_refl _),List.drop_of_length_le (by omega)]
  simp
theorem cut_to {l:List Nat} {j:Nat}:cutV (nats l) none (some (j:Int))=nats (l.take j):=by
 unfold cutV
 rw[HT.sIx_nat,HT.sIx_none,List.length_map,← List.map_drop,← List.map_take,List.drop_zero,Nat.sub_zero]
 by_cases h:j≤l.length
 ·rw[Nat.min_eq_left h]
 ·rw[Nat.min_eq_right (by omega),List.take_of_length_le (Nat.le_refl _),List.take_of_length_le (by omega)]
theorem Zh (l:List Nat):(nats l).length=l.length:=List.length_map _
theorem map_getD (f:Nat→Nat) (l:List Nat):(List.range l.length).map (fun i=>nV (f (l.getD i 0)))=nats (l.map f):=by
 apply List.ext_getElem?
 intro i
 by_cases h:i<l.length
 ·rw[List.getElem?_map,List.getElem?_range h,List.getElem?_map,List.getElem?_map,Jd h];rfl
 ·rw[List.getElem?_eq_none (by simp;omega),List.getElem?_eq_none (by simp;omega)]
theorem lcg_rngC {te:TE} {σ:St} {H1:Hp} {D:Addr} {Qd:Hp→Prop} {j:Nat} {lo c:Int} {n:Nat} (Pv:Nat→Hp→Prop) (h0:Pv 0 (upd H1 D (.lst [])))
  (hs:∀i H,i<n→Pv i H→te ((wipe σ [j]).set j (some (.int (lo+(i:Nat)*c)))) H fun y H4=>∃acc,H4 D=some (.lst acc)∧acc.length<sizeLine∧Pv (i+1) (upd H4 D (.lst (acc++[y]))))
  (hd:∀H,Pv n H→Qd H):LcW (Itc lo c n) (gName j) te [j] σ H1 D Qd:=by
 refine ⟨fun i m H=>m=n-i∧i≤n∧Pv i H,⟨n,by simp,Nat.zero_le _,h0⟩,?_⟩
 rintro i m H ⟨rfl,hi,p⟩
 by_cases hlt:i<n
 ·refine .inr ⟨hlt,Pv (i+1),fun H' p'=>⟨n-(i+1),by omega,rfl,hlt,p'⟩,fun x H' y=>?_⟩
  obtain ⟨e,y⟩:=y
  subst e y
  exact ⟨wipe1,hs i _ hlt p⟩
 ·have e:i=n:=by omega
  subst e
  exact .inl ⟨Nat.le_refl _,hd H p⟩
end Kb
namespace Kb
open PySem PySem.Spec PyProof.Rows L2
theorem erase_filter {α β:Type} [DecidableEq α]:∀{xs:List (α×β)} {j:Nat} {k:α} {p:β},(xs.map (·.1)).Nodup→xs[j]?=some (k,p)→xs.eraseIdx j=xs.filter fun x=>decide (x.1≠k)
 | [],_,_,_,_,h=>by simp at h
 | x::xs,0,k,p,hn,h=>by
  have e:x=(k,p):=Option.some.inj h
  subst e
  have hn':=List.nodup_cons.mp hn
  rw[List.eraseIdx_cons_zero,List.filter_cons_of_neg (by simp)]
  refine (List.filter_eq_self.mpr fun y hy=>?_).symm
  have:y.1≠k:=fun e=>hn'.1 (e▸List.mem_map.mpr ⟨y,hy,rfl⟩)
  simpa using this
 | x::xs,j+1,k,p,hn,h=>by
  have hn':=List.nodup_cons.mp hn
  have h':xs[j]?=some (k,p):=h
  have hx:x.1≠k:=fun e=>hn'.1 (by show x.1∈_;rw[e];exact List.mem_map.mpr ⟨(k,p),List.mem_of_getElem? h',rfl⟩)
  rw[List.eraseIdx_cons_succ,List.filter_cons_of_pos (by simpa using hx),erase_filter hn'.2 h']
theorem map_erase {α β:Type} (f:α→β):∀(l:List α) (j:Nat),(l.eraseIdx j).map f=(l.map f).eraseIdx j
 | [],_=>rfl
 | _::_,0=>rfl
 | x::l,j+1=>by
  show f x::(l.eraseIdx j).map f=f x::(l.map f).eraseIdx j
  rw[map_erase f l j]
section
variable {prog:Program} {w:World} {A:Around} {E:Value→Shared→Prop} {s:Shared} {K:Type} [DecidableEq K] {knd:HeapKind prog w K}
theorem takeOut_heap {d a:Addr} {xs:List (K×Addr×Value)} {k:K} {j:Nat} {p:Addr×Value} {Q:Option DictEntry→Shared→Prop} (hu:knd.room A) (hkey:knd.is s.heap k a) (hm:s.heap.DictOfH knd d xs)
  (hj:xs[j]?=some (k,p)) (hQ:∀h',h'.DictOfH knd d (xs.eraseIdx j)→Heap.SameBut d s.heap h'→Q (some (entryOfKey knd (k,p))) { s with heap:=h',toks:=s.toks+knd.draws k })
  (hsz:xs.length≤sizeLine):wpAny (model prog w) A (Builtin.Dict.takeOut d (.ref a)) Q E s:=by
 obtain ⟨o,es,ep,ho,hc,hd,he,his,hn⟩:=hm
 have hes:es.size≤sizeLine:=by have e:=size_of_entries he;omega
 unfold Builtin.Dict.takeOut
 try with_reducible refine wpAny_holding ?_
 refine wpAny_bind (knd.pyHash hu hkey ?_)
 refine wpAny_bind (wpAny_dictFind_heap (s:={ s with toks:=s.toks+knd.draws k }) hu hkey ho hd he his hn (fun hno=>absurd hj (hno j p)) fun j' p' hj'=>?_)
 have ej:j'=j:=idxH_unique hn hj' hj
 subst ej
 refine wpAny_bind (wpAny_dictEntries (s:={ s with toks:=s.toks+knd.draws k }) ho hd ?_)
 rw[entry_at he,hj]
 show wpAny _ _ (do updateDictKeys d (·.eraseIdxIfInBounds j') (keyPart (.ref a));return some (entryOfKey knd (k,p))) _ _ _
 refine wpAny_bind (wpAny_updateDictKeys (hz:=hes) (s:={ s with toks:=s.toks+knd.draws k }) ho hd (wpAny_pure (hQ _ ⟨_,_,ep+1,Heap.get?_update_self _ ho (Obj.isFreed_of_dict (Obj.data_mapDictKeys hd _)),
   hc.mapDictKeys _,Obj.data_mapDictKeys hd _,?_,?_,?_⟩ (Heap.SameBut.update ..))))
 ·have hlt:j'<es.size:=by
   rw[size_of_entries he]
   exact (List.getElem?_eq_some_iff.mp hj).1
  rw[Array.eraseIdxIfInBounds,dif_pos hlt,Array.toList_eraseIdx,he,map_erase]
 ·intro x hx
  exact knd.keeps (his x (List.mem_of_mem_eraseIdx hx)) ho hd (Heap.SameBut.update ..)
 ·rw[map_erase]
  exact List.Nodup.sublist (List.eraseIdx_sublist _ _) hn
end
theorem spec_call {P:Program} {w:World} {K:PySem.W.Frag} {mg mb:Str→Option Value} {k:Nat} {fa a:Addr} {fd:FuncData} {x:Str} {sp:Sp} {s₁:Shared} {vs:List Value} {ns out:List Int}
  (KX:K.In s₁.heap) (hns:s₁.heap.Ns mainGlobals mg) (hb:s₁.heap.Ns builtinsNs mb) (hbb:∀x:Str,x≠"__name__"→mb x=bootBuiltins x) (hlim:s₁.heap.NoLimit) (hg:s₁.gens=#[])
  (ha:s₁.heap.get? a=some { cls:=.type "list",data:=.seq vs.toArray }) (hi:IntsAre vs ns) (hl:ns.length≤sizeLine) (hr:Room k callerA)
  (F:∀base:Heap,K.In base→base.Ns mainGlobals mg→FnOk P w K mg base CX0 k fa fd [x] sp) (hbind:∀(s:Shared) (u:Value),BindsTo s fd ⟨[u],[]⟩ [(x,u)])
  (hsp:∀H:Hp,Only H→SqL K H a (ns.map V.int)→sp [.ref a] H (fun v H'=>∃r,v=.ref r∧H' r=some (.lst (out.map V.int))) fun _ _ _=>False):
  codeAny (model P w) callerA (.call (.ref fa) ⟨[.ref a],[]⟩) (fun r s'=>(∃p,r=.ok (.ret (.ref p))∧∃(its:List Value) (n:Nat),IntsAre its out∧s'.heap.get? p=some { cls:=.type "list",data:=.seq its.toArray n }) ∧
   OldK s₁.heap s'.heap∧s'.os=s₁.os∧AllBare s'.gens) s₁:=by
 have rv:=vals_ints hi
 have lenV:=hi.length
 have core:∀H:Hp,Only H→SqL K H a (ns.map V.int)→HOk P w H s₁.heap→(∀b,H b≠none→b=a)→(H a≠none→K.lookup a=none)→
   codeAny (model P w) callerA (.call (.ref fa) ⟨[.ref a],[]⟩) (fun r s'=>(∃p,r=.ok (.ret (.ref p))∧∃(its:List Value) (n:Nat),IntsAre its out∧s'.heap.get? p=some { cls:=.type "list",data:=.seq its.toArray n }) ∧
    OldK s₁.heap s'.heap∧s'.os=s₁.os∧AllBare s'.gens) s₁:=by
  intro H hO hS hok hA hK
  have base_of:∀{b:Addr} {o:Obj},s₁.heap.get? b=some o→H b=none→(hidT s₁.heap H).get? b=some o:=fun e n=>hidT_get e n
  have noA:∀{b:Addr} {o:Obj} {es:Array DictEntry} {ep:Nat},s₁.heap.get? b=some o→o.data=.dict es ep→H b=none:=fun {b o es ep} e d=>by
   cases q:H b with
   | none=>rfl
   | some u=>
    have e':b=a:=hA b (by rw[q];simp)
    subst e'
    rw[ha] at e;cases e
    have d':Data.seq vs.toArray _=Data.dict es ep:=d
    cases d'
  have nsK:∀{b:Addr} {m:Str→Option Value},s₁.heap.Ns b m→(hidT s₁.heap H).Ns b m:=fun {b m} ⟨o,es,ep,e,d,r⟩=>⟨o,es,ep,base_of e (noA e d),d,r⟩
  have hKb:K.In (hidT s₁.heap H):=fun b o e=>base_of (KX b o e) (by
   cases q:H b with
   | none=>rfl
   | some u=>
    have e':b=a:=hA b (by rw[q];simp)
    subst e'
    rw[hK (by rw[q];simp)] at e;cases e)
  have hM:Mod K mg (hidT s₁.heap H):=⟨hKb,nsK hns,⟨mb,nsK hb,hbb⟩,let ⟨mc,h1,h2⟩:=hlim;⟨mc,nsK h1,h2⟩⟩
  have e0:Env0 P w K mg (hidT s₁.heap H) callerA [] s₁ H:=⟨rfl,hM,fun b o e=>of_hidT e,Nat.le_of_eq (hidT_size _ _),trivial,fun b hb=>absurd (show b∈([]:List Addr) from hb) (by simp),hok,.of_eq hg⟩
  refine codeAny_mono ((F _ hKb (nsK hns)).run callerA [] s₁ H ⟨[.ref a],[]⟩ [.ref a] [.ref a] _ _ hr e0 (hbind s₁ (.ref a)) (.cons rfl .nil) (hsp H hO hS)) fun r s' h=>?_
  cases r with
  | error e=>exact h.elim
  | ok fl=>
   cases fl with
   | next=>exact False.elim h
   | brk=>exact False.elim h
   | cont=>exact False.elim h
   | ret u=>
    obtain ⟨v,H',os,bare,un,hok',r',q⟩:=h
    obtain ⟨p,rfl,hp⟩:=q
    obtain rfl:u=Value.ref p:=r'
    obtain ⟨_,its,n,hv,ho⟩:=hok' p _ hp
    refine ⟨⟨p,rfl,its,n,Vals.ints hv,ho⟩,OldK.of_keep fun b o e=>?_,os,bare⟩
    cases q:H b with
    | none=>exact un.keep b o e q (by intro z;exact absurd (show b∈([]:List Addr) from z) (by simp)) (by simp)
    | some u=>
     rcases hO b with z|⟨ob,xs,z⟩
     ·rw[q] at z;cases z
     ·have z2:=un.frzs b ob _ z
      obtain ⟨e1,_⟩:=hok b _ z
      obtain ⟨e2,_⟩:=hok' b _ z2
      rw[e] at e1;cases e1
      exact e2
 cases hk:K.lookup a with
 | some o=>
  have e:=KX a o hk
  rw[ha] at e
  cases e
  refine core (fun _=>none) (fun _=>.inl rfl) (.inr ⟨_,vs.toArray,_,hk,rfl,rfl,rfl,by rw[List.size_toArray,lenV];exact hl,by simpa using rv⟩) (fun b u z=>by have z':(none:Option HO)=some u:=z;cases z') (fun b z=>absurd rfl z) fun z=>absurd rfl z
 | none=>
  refine core (fun b=>if b=a then some (.frz { cls:=.type "list",data:=.seq vs.toArray } (.lst (ns.map V.int))) else none) (fun b=>?_) (.inl (.inr ⟨{ cls:=.type "list",data:=.seq vs.toArray },if_pos rfl⟩)) (fun b u z=>?_) (fun b z=>?_) fun _=>hk
  ·by_cases hb:b=a
   ·exact .inr ⟨_,_,if_pos hb⟩
   ·exact .inl (if_neg hb)
  ·by_cases hb:b=a
   ·have z':=(if_pos hb).symm.trans z
    cases z'
    subst hb
    exact ⟨ha,by rw[List.length_map];exact hl,vs,_,rv,ha⟩
   ·have z':=(if_neg hb).symm.trans z
    cases z'
  ·by_cases hb:b=a
   ·exact hb
   ·exact absurd (if_neg hb) z
theorem readsAllW_ints {R:PySem.W.WRecords} {cl:Str→Option Addr} {h:Heap}:∀{vs:List Value} {ns:List Int},IntsAre vs ns→PySem.W.ReadsAllW R cl h vs (ns.map PySem.W.WData.int) []
 | _,_,.nil=>.nil
 | _,_,.cons n t r=>.cons (as:=[]) (bs:=[]) (.int n t) (readsAllW_ints r)
theorem walk_spec {r:PySem.W.OpenSpec} {k n:Nat} {q:Program} {loose:List Str} {XP:(Str→Option Value)→Heap→Prop} {YP:World→Heap→Prop} {d:DefRec} {K:Params→PySem.W.Frag} {sp:World→Sp} {x:Str}
  (f:List Int→List Int) (asked:List Int→Bool)
  (hpre:∀args,r.pre args=true→∃ns:List Int,args=[PySem.W.WData.list (ns.map PySem.W.WData.int)]∧ns.length≤n∧asked ns=true)
  (hpost:∀ns:List Int,ns.length≤n→asked ns=true→r.claim.pre [PySem.W.WData.list (ns.map PySem.W.WData.int)]=true→r.claim.post [PySem.W.WData.list (ns.map PySem.W.WData.int)] (.list ((f ns).map PySem.W.WData.int)) [PySem.W.WData.list (ns.map PySem.W.WData.int)]=true)
  (hn2:n≤sizeLine) (hdf:d.params.defaults=[]) (hr:Room k callerA)
  (hY:∀(w:World) (h:Heap),YP w h→(K w.params).In h)
  (F:∀(w:World) (mg:Str→Option Value) (fa:Addr) (h:Heap),(K w.params).In h→h.Ns mainGlobals mg→mg d.name=some (.ref fa)→
   ∃fd:FuncData,(∀(s:Shared) (u:Value),BindsTo s fd ⟨[u],[]⟩ [(x,u)]) ∧
    ∀base:Heap,(K w.params).In base→base.Ns mainGlobals mg→FnOk r.prog w (K w.params) mg base CX0 k fa fd [x] (sp w))
  (hsp:∀(w:World) (H:Hp) (a:Addr) (ns:List Int),ns.length≤n→asked ns=true→Only H→SqL (K w.params) H a (ns.map V.int)→sp w [.ref a] H (fun v H'=>∃r,v=.ref r∧H' r=some (.lst ((f ns).map V.int))) fun _ _ _=>False):
  PySem.W.WalkOS q loose XP YP r d [] (fun f vs=>PySem.call f vs):=by
 intro w s₀ s₁ mg mb G Y fa o pm cd doc dV kV ho hd hcd hD hmg hg args vals as hp hlay hrd hwl hlo
 obtain rfl:dV=.none:=PySem.W.Dflts.none hD hdf
 obtain rfl:kV=.none:=PySem.W.Dflts.noKw hD
 obtain ⟨ns,rfl,hlen,hask⟩:=hpre args hp
 obtain ⟨a,vs,rfl,hobj,hints⟩:∃a vs,vals=[Value.ref a]∧s₁.heap.get? a=some { cls:=.type "list",data:=.seq vs.toArray }∧IntsAre vs ns:=by
  cases hwl with
  | cons w1 w2=>
   cases w2
   cases w1 with
   | list ho hall=>exact ⟨_,_,rfl,ho,Att.ints_of_wellAll ns _ hall⟩
 have KX:=hY w _ Y
 obtain ⟨fd,hb,hF⟩:=F w mg fa _ KX G.T.g hmg
 refine PySem.W.enter_call (codeAny_mono (spec_call (out:=f ns) KX G.T.g G.T.b G.T.builtins G.T.nolimit hg hobj hints (Nat.le_trans hlen hn2) hr hF hb (fun H hO hS=>hsp w H a ns hlen hask hO hS)) fun res s' hq=>?_)
 obtain ⟨⟨p,rfl,its,m,hI,hget⟩,h2,h3,h4⟩:=hq
 exact ⟨.inl ⟨.ref p,.list ((f ns).map PySem.W.WData.int),[p],rfl,fun _=>rfl,.list (as:=[]) hget rfl rfl (readsAllW_ints hI),hpost ns hlen hask hp,fun z=>by cases z⟩,h2,h3,h4⟩
end Kb
namespace Kb
open PySem L2
def top (i:Nat):Stmt:=PySem.Challenge.pw_keptbook_s01_answers.main.body.getD i (.Pass ⟨0,0,0,0⟩)
abbrev s_Call_init:Stmt:=Qw (top 1) 0
theorem sc_Call_init:FnScope ["self","number","numbers","lists"] ["self","number","numbers","lists"] (Qs s_Call_init):=⟨rfl,rfl,rfl,by decide +kernel,rfl,by decide +kernel,by decide +kernel⟩
abbrev s_Reader_init:Stmt:=Qw (top 2) 0
theorem sc_Reader_init:FnScope ["self","source"] ["self","source"] (Qs s_Reader_init):=⟨rfl,rfl,rfl,by decide +kernel,rfl,by decide +kernel,by decide +kernel⟩
abbrev s_Reader_at_end:Stmt:=Qw (top 2) 1
theorem sc_Reader_at_end:FnScope ["self"] ["self"] (Qs s_Reader_at_end):=⟨rfl,rfl,rfl,by decide +kernel,rfl,by decide +kernel,by decide +kernel⟩
abbrev Qc:Stmt:=Qw (top 2) 2
theorem Jw:FnScope ["self","number"] ["self"] (Qs Qc):=⟨rfl,rfl,rfl,by decide +kernel,rfl,by decide +kernel,by decide +kernel⟩
abbrev s_Reader_take_list:Stmt:=Qw (top 2) 3
theorem Xy:FnScope ["self","length","begin"] ["self"] (Qs s_Reader_take_list):=⟨rfl,rfl,rfl,by decide +kernel,rfl,by decide +kernel,by decide +kernel⟩
abbrev s_Reader_take_call:Stmt:=Qw (top 2) 4
theorem Ym:FnScope ["self","number","numbers","lists","turn"] ["self"] (Qs s_Reader_take_call):=⟨rfl,rfl,rfl,by decide +kernel,rfl,by decide +kernel,by decide +kernel⟩
abbrev s_split_calls:Stmt:=top 3
theorem sc_split_calls:FnScope ["source","reader","found"] ["source"] (Qs s_split_calls):=⟨rfl,rfl,rfl,by decide +kernel,rfl,by decide +kernel,by decide +kernel⟩
abbrev s_sum_of:Stmt:=top 8
theorem J1:FnScope ["data","padded","words","begin","answer","word"] ["data"] (Qs s_sum_of):=⟨rfl,rfl,rfl,by decide +kernel,rfl,by decide +kernel,by decide +kernel⟩
abbrev s_tail_of:Stmt:=top 9
theorem sc_tail_of:FnScope ["length","zeros"] ["length"] (Qs s_tail_of):=⟨rfl,rfl,rfl,by decide +kernel,rfl,by decide +kernel,by decide +kernel⟩
abbrev s_high_first:Stmt:=top 10
theorem sc_high_first:FnScope ["number","count","place"] ["number","count"] (Qs s_high_first):=⟨rfl,rfl,rfl,by decide +kernel,rfl,by decide +kernel,by decide +kernel⟩
abbrev s_turned_left:Stmt:=top 11
theorem sc_turned_left:FnScope ["word","bits"] ["word","bits"] (Qs s_turned_left):=⟨rfl,rfl,rfl,by decide +kernel,rfl,by decide +kernel,by decide +kernel⟩
abbrev s_spread:Stmt:=top 12
theorem sc_spread:FnScope ["block","words","k"] ["block"] (Qs s_spread):=⟨rfl,rfl,rfl,by decide +kernel,rfl,by decide +kernel,by decide +kernel⟩
abbrev s_blended:Stmt:=top 13
theorem sc_blended:FnScope ["step","b","c","d"] ["step","b","c","d"] (Qs s_blended):=⟨rfl,rfl,rfl,by decide +kernel,rfl,by decide +kernel,by decide +kernel⟩
abbrev s_stir:Stmt:=top 14
theorem Ys:FnScope ["words","schedule","a","b","c","d","e","step","word","fresh","stirred","old","new"] ["words","schedule"] (Qs s_stir):=⟨rfl,rfl,rfl,by decide +kernel,rfl,by decide +kernel,by decide +kernel⟩
abbrev s_spread_key:Stmt:=top 22
theorem Yf:FnScope ["key","words","factor","k","word","byte"] ["key"] (Qs s_spread_key):=⟨rfl,rfl,rfl,by decide +kernel,rfl,by decide +kernel,by decide +kernel⟩
abbrev s_shut_block:Stmt:=top 23
theorem J6:FnScope ["block","schedule","state","turn"] ["block","schedule"] (Qs s_shut_block):=⟨rfl,rfl,rfl,by decide +kernel,rfl,by decide +kernel,by decide +kernel⟩
abbrev s_open_block:Stmt:=top 24
theorem J7:FnScope ["block","schedule","state","turn"] ["block","schedule"] (Qs s_open_block):=⟨rfl,rfl,rfl,by decide +kernel,rfl,by decide +kernel,by decide +kernel⟩
abbrev s_shut_from:Stmt:=top 25
theorem Jm:FnScope ["start","text","schedule","answer","before","begin"] ["start","text","schedule"] (Qs s_shut_from):=⟨rfl,rfl,rfl,by decide +kernel,rfl,by decide +kernel,by decide +kernel⟩
abbrev s_open_from:Stmt:=top 26
theorem Xv:FnScope ["start","text","schedule","answer","before","begin","block"] ["start","text","schedule"] (Qs s_open_from):=⟨rfl,rfl,rfl,by decide +kernel,rfl,by decide +kernel,by decide +kernel⟩
abbrev s_xor:Stmt:=top 27
theorem sc_xor:FnScope ["left","right","a","b"] ["left","right"] (Qs s_xor):=⟨rfl,rfl,rfl,by decide +kernel,rfl,by decide +kernel,by decide +kernel⟩
abbrev Xi:Stmt:=top 28
theorem Y8:FnScope ["state","place"] ["state"] (Qs Xi):=⟨rfl,rfl,rfl,by decide +kernel,rfl,by decide +kernel,by decide +kernel⟩
abbrev Yr:Stmt:=top 29
theorem Yn:FnScope ["state","place"] ["state"] (Qs Yr):=⟨rfl,rfl,rfl,by decide +kernel,rfl,by decide +kernel,by decide +kernel⟩
abbrev s_doubled:Stmt:=top 30
theorem sc_doubled:FnScope ["byte","twice"] ["byte"] (Qs s_doubled):=⟨rfl,rfl,rfl,by decide +kernel,rfl,by decide +kernel,by decide +kernel⟩
abbrev s_mixed:Stmt:=top 31
theorem J9:FnScope ["state","answer","begin","a","b","c","d","every"] ["state"] (Qs s_mixed):=⟨rfl,rfl,rfl,by decide +kernel,rfl,by decide +kernel,by decide +kernel⟩
abbrev s_mixed_back:Stmt:=top 32
theorem Yi:FnScope ["state","leveled","begin","a","b","c","d","even","odd"] ["state"] (Qs s_mixed_back):=⟨rfl,rfl,rfl,by decide +kernel,rfl,by decide +kernel,by decide +kernel⟩
abbrev s_low_first:Stmt:=top 43
theorem sc_low_first:FnScope ["number","count","place"] ["number","count"] (Qs s_low_first):=⟨rfl,rfl,rfl,by decide +kernel,rfl,by decide +kernel,by decide +kernel⟩
abbrev s_from_low_first:Stmt:=top 44
theorem Xl:FnScope ["data","number","byte"] ["data"] (Qs s_from_low_first):=⟨rfl,rfl,rfl,by decide +kernel,rfl,by decide +kernel,by decide +kernel⟩
abbrev s_head_front:Stmt:=top 45
theorem sc_head_front:FnScope ["shut"] ["shut"] (Qs s_head_front):=⟨rfl,rfl,rfl,by decide +kernel,rfl,by decide +kernel,by decide +kernel⟩
abbrev s_head_bytes:Stmt:=top 46
theorem sc_head_bytes:FnScope ["shut","salt","key","front"] ["shut","salt","key"] (Qs s_head_bytes):=⟨rfl,rfl,rfl,by decide +kernel,rfl,by decide +kernel,by decide +kernel⟩
abbrev s_begins_as_head:Stmt:=top 47
theorem sc_begins_as_head:FnScope ["data","shut"] ["data","shut"] (Qs s_begins_as_head):=⟨rfl,rfl,rfl,by decide +kernel,rfl,by decide +kernel,by decide +kernel⟩
abbrev s_salt_of:Stmt:=top 48
theorem sc_salt_of:FnScope ["head"] ["head"] (Qs s_salt_of):=⟨rfl,rfl,rfl,by decide +kernel,rfl,by decide +kernel,by decide +kernel⟩
abbrev s_put_text:Stmt:=top 49
theorem sc_put_text:FnScope ["kind","name","body"] ["kind","name","body"] (Qs s_put_text):=⟨rfl,rfl,rfl,by decide +kernel,rfl,by decide +kernel,by decide +kernel⟩
abbrev s_drop_text:Stmt:=top 50
theorem sc_drop_text:FnScope ["name"] ["name"] (Qs s_drop_text):=⟨rfl,rfl,rfl,by decide +kernel,rfl,by decide +kernel,by decide +kernel⟩
abbrev s_back_text:Stmt:=top 51
theorem sc_back_text:FnScope ["number"] ["number"] (Qs s_back_text):=⟨rfl,rfl,rfl,by decide +kernel,rfl,by decide +kernel,by decide +kernel⟩
abbrev s_blocks_length:Stmt:=top 52
theorem sc_blocks_length:FnScope ["plain_length"] ["plain_length"] (Qs s_blocks_length):=⟨rfl,rfl,rfl,by decide +kernel,rfl,by decide +kernel,by decide +kernel⟩
abbrev s_entry_length:Stmt:=top 53
theorem sc_entry_length:FnScope ["plain_length"] ["plain_length"] (Qs s_entry_length):=⟨rfl,rfl,rfl,by decide +kernel,rfl,by decide +kernel,by decide +kernel⟩
abbrev s_entry_bytes:Stmt:=top 54
theorem Jn:FnScope ["number","plain","sum_before","schedule","text","entry"] ["number","plain","sum_before","schedule"] (Qs s_entry_bytes):=⟨rfl,rfl,rfl,by decide +kernel,rfl,by decide +kernel,by decide +kernel⟩
abbrev s_is_name_length:Stmt:=top 60
theorem sc_is_name_length:FnScope ["number"] ["number"] (Qs s_is_name_length):=⟨rfl,rfl,rfl,by decide +kernel,rfl,by decide +kernel,by decide +kernel⟩
abbrev s_take_entries:Stmt:=top 66
theorem Xd:FnScope ["volume","data","begin","plain_length","end","entry"] ["volume","data"] (Qs s_take_entries):=⟨rfl,rfl,rfl,by decide +kernel,rfl,by decide +kernel,by decide +kernel⟩
abbrev s_take_entry:Stmt:=top 67
theorem sc_take_entry:FnScope ["volume","entry","plain_length","text"] ["volume","entry","plain_length"] (Qs s_take_entry):=⟨rfl,rfl,rfl,by decide +kernel,rfl,by decide +kernel,by decide +kernel⟩
abbrev s_take_plain:Stmt:=top 68
theorem sc_take_plain:FnScope ["history","plain"] ["history","plain"] (Qs s_take_plain):=⟨rfl,rfl,rfl,by decide +kernel,rfl,by decide +kernel,by decide +kernel⟩
abbrev s_take_put:Stmt:=top 69
theorem sc_take_put:FnScope ["history","plain","name","body"] ["history","plain"] (Qs s_take_put):=⟨rfl,rfl,rfl,by decide +kernel,rfl,by decide +kernel,by decide +kernel⟩
abbrev s_take_drop:Stmt:=top 70
theorem sc_take_drop:FnScope ["history","plain","name"] ["history","plain"] (Qs s_take_drop):=⟨rfl,rfl,rfl,by decide +kernel,rfl,by decide +kernel,by decide +kernel⟩
abbrev s_take_back:Stmt:=top 71
theorem sc_take_back:FnScope ["history","plain","number"] ["history","plain"] (Qs s_take_back):=⟨rfl,rfl,rfl,by decide +kernel,rfl,by decide +kernel,by decide +kernel⟩
abbrev s_name_at:Stmt:=top 72
theorem sc_name_at:FnScope ["plain","place","begin","end"] ["plain","place"] (Qs s_name_at):=⟨rfl,rfl,rfl,by decide +kernel,rfl,by decide +kernel,by decide +kernel⟩
abbrev s_Change_init:Stmt:=Qw (top 79) 0
theorem sc_Change_init:FnScope ["self","number","earlier","name","is_put","kind","body"] ["self","number","earlier","name","is_put","kind","body"] (Qs s_Change_init):=⟨rfl,rfl,rfl,by decide +kernel,rfl,by decide +kernel,by decide +kernel⟩
abbrev s_History_init:Stmt:=Qw (top 80) 0
theorem sc_History_init:FnScope ["self"] ["self"] (Qs s_History_init):=⟨rfl,rfl,rfl,by decide +kernel,rfl,by decide +kernel,by decide +kernel⟩
abbrev Jx:Stmt:=Qw (top 80) 1
theorem sc_History_entry_count:FnScope ["self"] ["self"] (Qs Jx):=⟨rfl,rfl,rfl,by decide +kernel,rfl,by decide +kernel,by decide +kernel⟩
abbrev s_History_put:Stmt:=Qw (top 80) 2
theorem sc_History_put:FnScope ["self","kind","name","body","change"] ["self","kind","name","body"] (Qs s_History_put):=⟨rfl,rfl,rfl,by decide +kernel,rfl,by decide +kernel,by decide +kernel⟩
abbrev s_History_drop:Stmt:=Qw (top 80) 3
theorem sc_History_drop:FnScope ["self","name","change"] ["self","name"] (Qs s_History_drop):=⟨rfl,rfl,rfl,by decide +kernel,rfl,by decide +kernel,by decide +kernel⟩
abbrev s_History_back:Stmt:=Qw (top 80) 4
theorem sc_History_back:FnScope ["self","number","end"] ["self","number"] (Qs s_History_back):=⟨rfl,rfl,rfl,by decide +kernel,rfl,by decide +kernel,by decide +kernel⟩
abbrev Qe:Stmt:=Qw (top 80) 5
theorem Xh:FnScope ["self","name","is_put","kind","body","number","change"] ["self","name","is_put","kind","body"] (Qs Qe):=⟨rfl,rfl,rfl,by decide +kernel,rfl,by decide +kernel,by decide +kernel⟩
abbrev s_History_way:Stmt:=Qw (top 80) 6
theorem Xp:FnScope ["self","end","changes","number","change"] ["self","end"] (Qs s_History_way):=⟨rfl,rfl,rfl,by decide +kernel,rfl,by decide +kernel,by decide +kernel⟩
abbrev s_History_record:Stmt:=Qw (top 80) 7
theorem sc_History_record:FnScope ["self","name"] ["self","name"] (Qs s_History_record):=⟨rfl,rfl,rfl,by decide +kernel,rfl,by decide +kernel,by decide +kernel⟩
abbrev Jo:Stmt:=Qw (top 80) 8
theorem Jg:FnScope ["self","name"] ["self"] (Qs Jo):=⟨rfl,rfl,rfl,by decide +kernel,rfl,by decide +kernel,by decide +kernel⟩
abbrev Jh:Stmt:=Qw (top 80) 9
theorem Y3:FnScope ["self","name","wanted","change"] ["self","name"] (Qs Jh):=⟨rfl,rfl,rfl,by decide +kernel,rfl,by decide +kernel,by decide +kernel⟩
abbrev s_standing_after:Stmt:=top 81
theorem Jl:FnScope ["way","standing","change"] ["way"] (Qs s_standing_after):=⟨rfl,rfl,rfl,by decide +kernel,rfl,by decide +kernel,by decide +kernel⟩
abbrev s_Volume_init:Stmt:=Qw (top 83) 0
theorem sc_Volume_init:FnScope ["self","shut","salt","key"] ["self","shut","salt","key"] (Qs s_Volume_init):=⟨rfl,rfl,rfl,by decide +kernel,rfl,by decide +kernel,by decide +kernel⟩
abbrev s_Volume_put:Stmt:=Qw (top 83) 1
theorem sc_Volume_put:FnScope ["self","kind","name","body"] ["self","kind","name","body"] (Qs s_Volume_put):=⟨rfl,rfl,rfl,by decide +kernel,rfl,by decide +kernel,by decide +kernel⟩
abbrev s_Volume_drop:Stmt:=Qw (top 83) 2
theorem sc_Volume_drop:FnScope ["self","name"] ["self","name"] (Qs s_Volume_drop):=⟨rfl,rfl,rfl,by decide +kernel,rfl,by decide +kernel,by decide +kernel⟩
abbrev s_Volume_back:Stmt:=Qw (top 83) 3
theorem sc_Volume_back:FnScope ["self","number"] ["self","number"] (Qs s_Volume_back):=⟨rfl,rfl,rfl,by decide +kernel,rfl,by decide +kernel,by decide +kernel⟩
abbrev s_Volume_write:Stmt:=Qw (top 83) 4
theorem sc_Volume_write:FnScope ["self","plain","number"] ["self","plain"] (Qs s_Volume_write):=⟨rfl,rfl,rfl,by decide +kernel,rfl,by decide +kernel,by decide +kernel⟩
abbrev s_Volume_add_entry:Stmt:=Qw (top 83) 5
theorem sc_Volume_add_entry:FnScope ["self","entry"] ["self","entry"] (Qs s_Volume_add_entry):=⟨rfl,rfl,rfl,by decide +kernel,rfl,by decide +kernel,by decide +kernel⟩
abbrev s_Volume_last_sum:Stmt:=Qw (top 83) 6
theorem sc_Volume_last_sum:FnScope ["self"] ["self"] (Qs s_Volume_last_sum):=⟨rfl,rfl,rfl,by decide +kernel,rfl,by decide +kernel,by decide +kernel⟩
abbrev Y6:Stmt:=Qw (top 83) 7
theorem Y1:FnScope ["self","length","end"] ["self","length"] (Qs Y6):=⟨rfl,rfl,rfl,by decide +kernel,rfl,by decide +kernel,by decide +kernel⟩
abbrev s_Volume_squeeze:Stmt:=Qw (top 83) 8
theorem Yx:FnScope ["self","records","kept","record"] ["self"] (Qs s_Volume_squeeze):=⟨rfl,rfl,rfl,by decide +kernel,rfl,by decide +kernel,by decide +kernel⟩
abbrev s_in_place_count:Stmt:=top 84
theorem Xk:FnScope ["records","count","record"] ["records"] (Qs s_in_place_count):=⟨rfl,rfl,rfl,by decide +kernel,rfl,by decide +kernel,by decide +kernel⟩
abbrev s_answers:Stmt:=top 103
theorem sc_answers:FnScope ["calls","desk","answered","call","answer"] ["calls"] (Qs s_answers):=⟨rfl,rfl,rfl,by decide +kernel,rfl,by decide +kernel,by decide +kernel⟩
abbrev s_common_length:Stmt:=top 104
theorem Y5:FnScope ["left","right","count","one","other"] ["left","right"] (Qs s_common_length):=⟨rfl,rfl,rfl,by decide +kernel,rfl,by decide +kernel,by decide +kernel⟩
abbrev s_Desk_init:Stmt:=Qw (top 105) 0
theorem sc_Desk_init:FnScope ["self"] ["self"] (Qs s_Desk_init):=⟨rfl,rfl,rfl,by decide +kernel,rfl,by decide +kernel,by decide +kernel⟩
abbrev s_Desk_answer:Stmt:=Qw (top 105) 1
theorem sc_Desk_answer:FnScope ["self","call","numbers","lists"] ["self","call"] (Qs s_Desk_answer):=⟨rfl,rfl,rfl,by decide +kernel,rfl,by decide +kernel,by decide +kernel⟩
abbrev s_Desk_answer_new:Stmt:=Qw (top 105) 2
theorem sc_Desk_answer_new:FnScope ["self","shut","salt","key"] ["self","shut","salt","key"] (Qs s_Desk_answer_new):=⟨rfl,rfl,rfl,by decide +kernel,rfl,by decide +kernel,by decide +kernel⟩
abbrev s_Desk_answer_put:Stmt:=Qw (top 105) 3
theorem sc_Desk_answer_put:FnScope ["self","numbers","name","body","kind"] ["self","numbers","name","body"] (Qs s_Desk_answer_put):=⟨rfl,rfl,rfl,by decide +kernel,rfl,by decide +kernel,by decide +kernel⟩
abbrev s_Desk_answer_drop:Stmt:=Qw (top 105) 4
theorem sc_Desk_answer_drop:FnScope ["self","name_length","name"] ["self","name_length","name"] (Qs s_Desk_answer_drop):=⟨rfl,rfl,rfl,by decide +kernel,rfl,by decide +kernel,by decide +kernel⟩
abbrev s_Desk_answer_back:Stmt:=Qw (top 105) 5
theorem sc_Desk_answer_back:FnScope ["self","number"] ["self","number"] (Qs s_Desk_answer_back):=⟨rfl,rfl,rfl,by decide +kernel,rfl,by decide +kernel,by decide +kernel⟩
abbrev s_Desk_answer_get:Stmt:=Qw (top 105) 6
theorem sc_Desk_answer_get:FnScope ["self","name_length","name","record"] ["self","name_length","name"] (Qs s_Desk_answer_get):=⟨rfl,rfl,rfl,by decide +kernel,rfl,by decide +kernel,by decide +kernel⟩
abbrev Ql:Stmt:=Qw (top 105) 7
theorem Yy:FnScope ["self","begin","most","records","answer","record"] ["self","begin","most"] (Qs Ql):=⟨rfl,rfl,rfl,by decide +kernel,rfl,by decide +kernel,by decide +kernel⟩
abbrev Jy:Stmt:=Qw (top 105) 8
theorem Y9:FnScope ["self","place","name_length","name","versions","version"] ["self","place","name_length","name"] (Qs Jy):=⟨rfl,rfl,rfl,by decide +kernel,rfl,by decide +kernel,by decide +kernel⟩
abbrev Qm:Stmt:=Qw (top 105) 9
theorem Qa:FnScope ["self","begin","most","content"] ["self","begin","most"] (Qs Qm):=⟨rfl,rfl,rfl,by decide +kernel,rfl,by decide +kernel,by decide +kernel⟩
abbrev s_Desk_answer_read:Stmt:=Qw (top 105) 10
theorem Xz:FnScope ["self","shut","length","key","data","volume","why"] ["self","shut","length","key","data"] (Qs s_Desk_answer_read):=⟨rfl,rfl,rfl,by decide +kernel,rfl,by decide +kernel,by decide +kernel⟩
abbrev Qn:Stmt:=Qw (top 105) 11
theorem Qb:FnScope ["self","length","data","common"] ["self","length","data"] (Qs Qn):=⟨rfl,rfl,rfl,by decide +kernel,rfl,by decide +kernel,by decide +kernel⟩
abbrev s_Desk_answer_sum:Stmt:=Qw (top 105) 12
theorem sc_Desk_answer_sum:FnScope ["self","length","data"] ["self","length","data"] (Qs s_Desk_answer_sum):=⟨rfl,rfl,rfl,by decide +kernel,rfl,by decide +kernel,by decide +kernel⟩
abbrev Qk:Stmt:=Qw (top 105) 13
theorem Xq:FnScope ["self","volume","history"] ["self"] (Qs Qk):=⟨rfl,rfl,rfl,by decide +kernel,rfl,by decide +kernel,by decide +kernel⟩
structure Adr where
 C_Call:Addr
 C_Reader:Addr
 C_Change:Addr
 C_History:Addr
 C_Volume:Addr
 C_UnknownCall:Addr
 C_Desk:Addr
 a_FIRST_WORDS:Addr
 a_SWAPPED:Addr
 a_SWAPPED_BACK:Addr
 a_SHIFTED:Addr
 a_SHIFTED_BACK:Addr
structure Txt (K:PySem.W.Frag) (mg:Str→Option Value) (t:Adr):Prop where
 n_len:mg "len"=none
 n_range:mg "range"=none
 n_tuple:mg "tuple"=none
 n_list:mg "list"=none
 n_zip:mg "zip"=none
 n_enumerate:mg "enumerate"=none
 n_reversed:mg "reversed"=none
 n_sorted:mg "sorted"=none
 n_any:mg "any"=none
 c_BLOCK_BYTES_digest:∃u,mg "BLOCK_BYTES_digest"=some (.int (64) u)
 c_WORD_MASK:∃u,mg "WORD_MASK"=some (.int (4294967295) u)
 c_FIRST_WORDS:mg "FIRST_WORDS"=some (.ref t.a_FIRST_WORDS)
 q_FIRST_WORDS:∀H,SqT K H t.a_FIRST_WORDS (nats [1732584193,4023233417,2562383102,271733878,3285377520])
 c_BLOCK_BYTES_cipher:∃u,mg "BLOCK_BYTES_cipher"=some (.int (16) u)
 c_LAST_TURN:∃u,mg "LAST_TURN"=some (.int (10) u)
 c_SWAPPED:mg "SWAPPED"=some (.ref t.a_SWAPPED)
 q_SWAPPED:∀H,SqT K H t.a_SWAPPED (nats [99,124,119,123,242,107,111,197,48,1,103,43,254,215,171,118,202,130,201,125,250,89,71,240,173,212,162,175,156,164,114,192,183,253,147,38,54,63,247,204,52,165,229,241,113,216,49,21,4,199,35,195,24,150,5,154,7,18,128,226,235,39,178,117,9,131,44,26,27,110,90,160,82,59,214,179,41,227,47,132,83,209,0,237,32,252,177,91,106,203,190,57,74,76,88,207,208,239,170,251,67,77,51,133,69,249,2,127,80,60,159,168,81,163,64,143,146,157,56,245,188,182,218,33,16,255,243,210,205,12,19,236,95,151,68,23,196,167,126,61,100,93,25,115,96,129,79,220,34,42,144,136,70,238,184,20,222,94,11,219,224,50,58,10,73,6,36,92,194,211,172,98,145,149,228,121,231,200,55,109,141,213,78,169,108,86,244,234,101,122,174,8,186,120,37,46,28,166,180,198,232,221,116,31,75,189,139,138,112,62,181,102,72,3,246,14,97,53,87,185,134,193,29,158,225,248,152,17,105,217,142,148,155,30,135,233,206,85,40,223,140,161,137,13,191,230,66,104,65,153,45,15,176,84,187,22])
 c_SWAPPED_BACK:mg "SWAPPED_BACK"=some (.ref t.a_SWAPPED_BACK)
 q_SWAPPED_BACK:∀H,SqT K H t.a_SWAPPED_BACK (nats [82,9,106,213,48,54,165,56,191,64,163,158,129,243,215,251,124,227,57,130,155,47,255,135,52,142,67,68,196,222,233,203,84,123,148,50,166,194,35,61,238,76,149,11,66,250,195,78,8,46,161,102,40,217,36,178,118,91,162,73,109,139,209,37,114,248,246,100,134,104,152,22,212,164,92,204,93,101,182,146,108,112,72,80,253,237,185,218,94,21,70,87,167,141,157,132,144,216,171,0,140,188,211,10,247,228,88,5,184,179,69,6,208,44,30,143,202,63,15,2,193,175,189,3,1,19,138,107,58,145,17,65,79,103,220,234,151,242,207,206,240,180,230,115,150,172,116,34,231,173,53,133,226,249,55,232,28,117,223,110,71,241,26,113,29,41,197,137,111,183,98,14,170,24,190,27,252,86,62,75,198,210,121,32,154,219,192,254,120,205,90,244,31,221,168,51,136,7,199,49,177,18,16,89,39,128,236,95,96,81,127,169,25,181,74,13,45,229,122,159,147,201,156,239,160,224,59,77,174,42,245,176,200,235,187,60,131,83,153,97,23,43,4,126,186,119,214,38,225,105,20,99,85,33,12,125])
 c_SHIFTED:mg "SHIFTED"=some (.ref t.a_SHIFTED)
 q_SHIFTED:∀H,SqT K H t.a_SHIFTED (nats [0,5,10,15,4,9,14,3,8,13,2,7,12,1,6,11])
 c_SHIFTED_BACK:mg "SHIFTED_BACK"=some (.ref t.a_SHIFTED_BACK)
 q_SHIFTED_BACK:∀H,SqT K H t.a_SHIFTED_BACK (nats [0,13,10,7,4,1,14,11,8,5,2,15,12,9,6,3])
 c_SALT_BEGIN:∃u,mg "SALT_BEGIN"=some (.int (8) u)
 c_SALT_END:∃u,mg "SALT_END"=some (.int (24) u)
 c_HEAD_BYTES:∃u,mg "HEAD_BYTES"=some (.int (44) u)
 c_FRONT_BYTES:∃u,mg "FRONT_BYTES"=some (.int (8) u)
 c_SUM_BYTES:∃u,mg "SUM_BYTES"=some (.int (20) u)
 c_PUT_layout:∃u,mg "PUT_layout"=some (.int (1) u)
 c_DROP_layout:∃u,mg "DROP_layout"=some (.int (2) u)
 c_BACK_layout:∃u,mg "BACK_layout"=some (.int (3) u)
 c_BACK_BYTES:∃u,mg "BACK_BYTES"=some (.int (5) u)
 c_MOST_NAME_BYTES:∃u,mg "MOST_NAME_BYTES"=some (.int (64) u)
 c_MOST_BODY_BYTES:∃u,mg "MOST_BODY_BYTES"=some (.int (65536) u)
 c_MOST_BOOK_BYTES:∃u,mg "MOST_BOOK_BYTES"=some (.int (1048576) u)
 c_MOST_PLAIN_BYTES:∃u,mg "MOST_PLAIN_BYTES"=some (.int (65603) u)
 c_NO_MORE_BYTES:∃u,mg "NO_MORE_BYTES"=some (.int (0) u)
 c_TOO_FEW_BYTES:∃u,mg "TOO_FEW_BYTES"=some (.int (1) u)
 c_WRONG_SUM:∃u,mg "WRONG_SUM"=some (.int (2) u)
 c_NOT_AS_TOLD:∃u,mg "NOT_AS_TOLD"=some (.int (3) u)
 c_NO_RECORD:∃u,mg "NO_RECORD"=some (.int (-2) u)
 c_NO_HEAD:∃u,mg "NO_HEAD"=some (.int (-3) u)
 c_TOO_LONG:∃u,mg "TOO_LONG"=some (.int (-4) u)
 c_WRONG_HEAD_SUM:∃u,mg "WRONG_HEAD_SUM"=some (.int (-5) u)
 c_OUT_OF_RANGE:∃u,mg "OUT_OF_RANGE"=some (.int (-8) u)
 c_NEW:∃u,mg "NEW"=some (.int (1) u)
 c_PUT_book:∃u,mg "PUT_book"=some (.int (2) u)
 c_DROP_book:∃u,mg "DROP_book"=some (.int (3) u)
 c_BACK_book:∃u,mg "BACK_book"=some (.int (4) u)
 c_GET:∃u,mg "GET"=some (.int (5) u)
 c_NAMES:∃u,mg "NAMES"=some (.int (6) u)
 c_VERSION:∃u,mg "VERSION"=some (.int (7) u)
 c_BYTES:∃u,mg "BYTES"=some (.int (8) u)
 c_READ:∃u,mg "READ"=some (.int (9) u)
 c_ALIKE:∃u,mg "ALIKE"=some (.int (10) u)
 c_SQUEEZE:∃u,mg "SQUEEZE"=some (.int (11) u)
 c_SUM:∃u,mg "SUM"=some (.int (12) u)
 c_STATE:∃u,mg "STATE"=some (.int (13) u)
 c_MOST_NAMES:∃u,mg "MOST_NAMES"=some (.int (4096) u)
 c_MOST_SHOWN_BYTES:∃u,mg "MOST_SHOWN_BYTES"=some (.int (65536) u)
 c_MOST_SUMMED_BYTES:∃u,mg "MOST_SUMMED_BYTES"=some (.int (65536) u)
 k_Call:Cls K t.C_Call
 na_Call_number:NoAttr K t.C_Call "number"
 na_Call_numbers:NoAttr K t.C_Call "numbers"
 na_Call_lists:NoAttr K t.C_Call "lists"
 k_Reader:Cls K t.C_Reader
 na_Reader_source:NoAttr K t.C_Reader "source"
 na_Reader_place:NoAttr K t.C_Reader "place"
 k_Change:Cls K t.C_Change
 na_Change_number:NoAttr K t.C_Change "number"
 na_Change_earlier:NoAttr K t.C_Change "earlier"
 na_Change_name:NoAttr K t.C_Change "name"
 na_Change_is_put:NoAttr K t.C_Change "is_put"
 na_Change_kind:NoAttr K t.C_Change "kind"
 na_Change_body:NoAttr K t.C_Change "body"
 k_History:Cls K t.C_History
 na_History_ends:NoAttr K t.C_History "ends"
 na_History_changes:NoAttr K t.C_History "changes"
 na_History_standing:NoAttr K t.C_History "standing"
 k_Volume:Cls K t.C_Volume
 na_Volume_schedule:NoAttr K t.C_Volume "schedule"
 na_Volume_content:NoAttr K t.C_Volume "content"
 na_Volume_lengths:NoAttr K t.C_Volume "lengths"
 na_Volume_history:NoAttr K t.C_Volume "history"
 k_Desk:Cls K t.C_Desk
 na_Desk_volume:NoAttr K t.C_Desk "volume"
 d_Call_init:DefC K mg t.C_Call "Call" "Call.__init__" s_Call_init ["self","number","numbers","lists"]
 d_Reader_init:DefC K mg t.C_Reader "Reader" "Reader.__init__" s_Reader_init ["self","source"]
 d_Reader_at_end:DefM K t.C_Reader "at_end" "Reader.at_end" s_Reader_at_end ["self"]
 d_Reader_take_number:DefM K t.C_Reader "take_number" "Reader.take_number" Qc ["self"]
 d_Reader_take_list:DefM K t.C_Reader "take_list" "Reader.take_list" s_Reader_take_list ["self"]
 d_Reader_take_call:DefM K t.C_Reader "take_call" "Reader.take_call" s_Reader_take_call ["self"]
 d_split_calls:DefF K mg "split_calls" s_split_calls ["source"]
 d_sum_of:DefF K mg "sum_of" s_sum_of ["data"]
 d_tail_of:DefF K mg "tail_of" s_tail_of ["length"]
 d_high_first:DefF K mg "high_first" s_high_first ["number","count"]
 d_turned_left:DefF K mg "turned_left" s_turned_left ["word","bits"]
 d_spread:DefF K mg "spread" s_spread ["block"]
 d_blended:DefF K mg "blended" s_blended ["step","b","c","d"]
 d_stir:DefF K mg "stir" s_stir ["words","schedule"]
 d_spread_key:DefF K mg "spread_key" s_spread_key ["key"]
 d_shut_block:DefF K mg "shut_block" s_shut_block ["block","schedule"]
 d_open_block:DefF K mg "open_block" s_open_block ["block","schedule"]
 d_shut_from:DefF K mg "shut_from" s_shut_from ["start","text","schedule"]
 d_open_from:DefF K mg "open_from" s_open_from ["start","text","schedule"]
 d_xor:DefF K mg "xor" s_xor ["left","right"]
 d_swapped_and_shifted:DefF K mg "swapped_and_shifted" Xi ["state"]
 d_swapped_and_shifted_back:DefF K mg "swapped_and_shifted_back" Yr ["state"]
 d_doubled:DefF K mg "doubled" s_doubled ["byte"]
 d_mixed:DefF K mg "mixed" s_mixed ["state"]
 d_mixed_back:DefF K mg "mixed_back" s_mixed_back ["state"]
 d_low_first:DefF K mg "low_first" s_low_first ["number","count"]
 d_from_low_first:DefF K mg "from_low_first" s_from_low_first ["data"]
 d_head_front:DefF K mg "head_front" s_head_front ["shut"]
 d_head_bytes:DefF K mg "head_bytes" s_head_bytes ["shut","salt","key"]
 d_begins_as_head:DefF K mg "begins_as_head" s_begins_as_head ["data","shut"]
 d_salt_of:DefF K mg "salt_of" s_salt_of ["head"]
 d_put_text:DefF K mg "put_text" s_put_text ["kind","name","body"]
 d_drop_text:DefF K mg "drop_text" s_drop_text ["name"]
 d_back_text:DefF K mg "back_text" s_back_text ["number"]
 d_blocks_length:DefF K mg "blocks_length" s_blocks_length ["plain_length"]
 d_entry_length:DefF K mg "entry_length" s_entry_length ["plain_length"]
 d_entry_bytes:DefF K mg "entry_bytes" s_entry_bytes ["number","plain","sum_before","schedule"]
 d_is_name_length:DefF K mg "is_name_length" s_is_name_length ["number"]
 d_take_entries:DefF K mg "take_entries" s_take_entries ["volume","data"]
 d_take_entry:DefF K mg "take_entry" s_take_entry ["volume","entry","plain_length"]
 d_take_plain:DefF K mg "take_plain" s_take_plain ["history","plain"]
 d_take_put:DefF K mg "take_put" s_take_put ["history","plain"]
 d_take_drop:DefF K mg "take_drop" s_take_drop ["history","plain"]
 d_take_back:DefF K mg "take_back" s_take_back ["history","plain"]
 d_name_at:DefF K mg "name_at" s_name_at ["plain","place"]
 d_Change_init:DefC K mg t.C_Change "Change" "Change.__init__" s_Change_init ["self","number","earlier","name","is_put","kind","body"]
 d_History_init:DefC K mg t.C_History "History" "History.__init__" s_History_init ["self"]
 d_History_entry_count:DefM K t.C_History "entry_count" "History.entry_count" Jx ["self"]
 d_History_put:DefM K t.C_History "put" "History.put" s_History_put ["self","kind","name","body"]
 d_History_drop:DefM K t.C_History "drop" "History.drop" s_History_drop ["self","name"]
 d_History_back:DefM K t.C_History "back" "History.back" s_History_back ["self","number"]
 d_History_add_change:DefM K t.C_History "add_change" "History.add_change" Qe ["self","name","is_put","kind","body"]
 d_History_way:DefM K t.C_History "way" "History.way" s_History_way ["self","end"]
 d_History_record:DefM K t.C_History "record" "History.record" s_History_record ["self","name"]
 d_History_records:DefM K t.C_History "records" "History.records" Jo ["self"]
 d_History_versions:DefM K t.C_History "versions" "History.versions" Jh ["self","name"]
 d_standing_after:DefF K mg "standing_after" s_standing_after ["way"]
 d_Volume_init:DefC K mg t.C_Volume "Volume" "Volume.__init__" s_Volume_init ["self","shut","salt","key"]
 d_Volume_put:DefM K t.C_Volume "put" "Volume.put" s_Volume_put ["self","kind","name","body"]
 d_Volume_drop:DefM K t.C_Volume "drop" "Volume.drop" s_Volume_drop ["self","name"]
 d_Volume_back:DefM K t.C_Volume "back" "Volume.back" s_Volume_back ["self","number"]
 d_Volume_write:DefM K t.C_Volume "write" "Volume.write" s_Volume_write ["self","plain"]
 d_Volume_add_entry:DefM K t.C_Volume "add_entry" "Volume.add_entry" s_Volume_add_entry ["self","entry"]
 d_Volume_last_sum:DefM K t.C_Volume "last_sum" "Volume.last_sum" s_Volume_last_sum ["self"]
 d_Volume_entries_within:DefM K t.C_Volume "entries_within" "Volume.entries_within" Y6 ["self","length"]
 d_Volume_squeeze:DefM K t.C_Volume "squeeze" "Volume.squeeze" s_Volume_squeeze ["self"]
 d_in_place_count:DefF K mg "in_place_count" s_in_place_count ["records"]
 d_answers:DefF K mg "answers" s_answers ["calls"]
 d_common_length:DefF K mg "common_length" s_common_length ["left","right"]
 d_Desk_init:DefC K mg t.C_Desk "Desk" "Desk.__init__" s_Desk_init ["self"]
 d_Desk_answer:DefM K t.C_Desk "answer" "Desk.answer" s_Desk_answer ["self","call"]
 d_Desk_answer_new:DefM K t.C_Desk "answer_new" "Desk.answer_new" s_Desk_answer_new ["self","shut","salt","key"]
 d_Desk_answer_put:DefM K t.C_Desk "answer_put" "Desk.answer_put" s_Desk_answer_put ["self","numbers","name","body"]
 d_Desk_answer_drop:DefM K t.C_Desk "answer_drop" "Desk.answer_drop" s_Desk_answer_drop ["self","name_length","name"]
 d_Desk_answer_back:DefM K t.C_Desk "answer_back" "Desk.answer_back" s_Desk_answer_back ["self","number"]
 d_Desk_answer_get:DefM K t.C_Desk "answer_get" "Desk.answer_get" s_Desk_answer_get ["self","name_length","name"]
 d_Desk_answer_names:DefM K t.C_Desk "answer_names" "Desk.answer_names" Ql ["self","begin","most"]
 d_Desk_answer_version:DefM K t.C_Desk "answer_version" "Desk.answer_version" Jy ["self","place","name_length","name"]
 d_Desk_answer_bytes:DefM K t.C_Desk "answer_bytes" "Desk.answer_bytes" Qm ["self","begin","most"]
 d_Desk_answer_read:DefM K t.C_Desk "answer_read" "Desk.answer_read" s_Desk_answer_read ["self","shut","length","key","data"]
 d_Desk_answer_alike:DefM K t.C_Desk "answer_alike" "Desk.answer_alike" Qn ["self","length","data"]
 d_Desk_answer_sum:DefM K t.C_Desk "answer_sum" "Desk.answer_sum" s_Desk_answer_sum ["self","length","data"]
 d_Desk_answer_state:DefM K t.C_Desk "answer_state" "Desk.answer_state" Qk ["self"]
end Kb
namespace Kb
open PySem PySem.Spec PyProof.Rows L2
section
variable {X:Cx} {K:PySem.W.Frag}
def rExtendT (K:PySem.W.Frag):V→List V→Hp→VK→Prop:=fun x vs H Q=>∃l b xs zs,x=.ref l∧vs=[.ref b]∧H l=some (.lst xs)∧SqT K H b zs∧xs.length+zs.length≤sizeLine∧Q .non (upd H l (.lst (xs++zs)))
theorem mt_extendT (hK:X.K=K):MtR X "list.extend" (rExtendT K):=by
 subst hK
 intro pins s σ H x vs v us Q I rx rv h
 obtain ⟨l,b,xs,zs,rfl,rfl,hH,hB,hz,q⟩:=h
 cases rx
 obtain ⟨u,rfl,ru⟩:=rv.one
 cases ru
 obtain ⟨z,its,n,r,hl,e⟩:=I.lstM hH
 obtain ⟨its2,r2,⟨o,ho,hc,n2,hd⟩,hz2⟩:=I.tuple hB
 have hl2:=r2.length
 have hsz:its.toArray.size+its2.toArray.size≤sizeLine:=by rw[List.size_toArray,List.size_toArray];omega
 refine wpAny_call_entry F.slot_list_extend ⟨_,e,rfl⟩ F.entry_list_extend ?_ (F.args_list_extend_2 _ _)
 show wpAny _ _ (Builtin.List.listExtendWith (.ref l) (.ref b) .none) _ _ s
 unfold Builtin.List.listExtendWith
 refine wpAny_bind (wpAny_typeOf ⟨o,ho,hc⟩ ?_)
 have h1:(Builtin.List.listSameRef (.ref l) (.ref b)||Value.type "tuple"==Value.type "list"||Value.type "tuple"==Value.type "tuple")=true:=by simp
 simp only[h1,if_true]
 refine wpAny_bind (listItems_at ho hd ?_)
 refine wpAny_bind (listItems_at e rfl ?_)
 have hlong:(!its.toArray.isEmpty&&Builtin.List.listTooLong (its.toArray.size+its2.toArray.size))=false:=by
  rw[notLongL hsz,Bool.and_false]
 simp only[hlong,Bool.false_eq_true,if_false]
 refine wpAny_bind (listUpdate_at e rfl ?_ (by rw[List.size_toArray];omega) (by rw[Array.size_append];omega))
 refine wpAny_pure ⟨_,rfl,.non,_,I.lset (its':=its++its2) (t':=s.toks) hH e (by simp) (r.append r2) ?_,rfl,q⟩
 rw[List.length_append]
 omega
def rAny (K:PySem.W.Frag):List V→Hp→VK→Prop:=fun vs H Q=>∃(a:Addr) (ns:List Int),vs=[V.ref a]∧SqL K H a (ns.map V.int)∧Q (.bl (ns.any fun z=>z != 0)) H
theorem any_range (ns:List Int):((List.range ns.length).any fun i=>(ns.getD i 0 != 0))=ns.any fun z=>z != 0:=by
 rw[Bool.eq_iff_iff,List.any_eq_true,List.any_eq_true]
 constructor
 ·rintro ⟨i,hi,e⟩
  have hi':i<ns.length:=by simpa using hi
  refine ⟨ns.getD i 0,?_,e⟩
  rw[List.getD_eq_getElem?_getD,List.getElem?_eq_getElem hi']
  exact List.getElem_mem hi'
 ·rintro ⟨z,hz,e⟩
  obtain ⟨i,hi,rfl⟩:=List.getElem_of_mem hz
  refine ⟨i,by simpa using hi,?_⟩
  rw[List.getD_eq_getElem?_getD,List.getElem?_eq_getElem hi]
  exact e
theorem call_any (hK:X.K=K) (hc:X.calm=true):CallR X (.builtin "any") (rAny K):=by
 subst hK
 intro pins s σ H vs us Q I r h
 obtain ⟨a,ns,rfl,hs,q⟩:=h
 obtain ⟨its,rv,hl,_⟩:=I.list hs
 rw[Vals.ref1 r]
 have hi:=rv.ints
 have hlen:=hi.length
 have hl:=hl.isList
 have hlt:a<s.heap.objs.size:=by obtain ⟨_,e,_⟩:=hl;exact Heap.lt_size e
 refine call_any_walk (wpAny_pyIter_list hl ?_)
 refine ⟨s.heap.objs.size,[s.heap.objs.size,a],[s.heap.objs.size],its.toArray.size,_,_,fun i=>(ns.getD i 0 != 0),rfl,Walks.list (A:=X.A.in1) (I.ok.hd hc) _ a (Nat.ne_of_lt hlt) its.toArray,
  ⟨⟨_,Heap.get?_push_size _ rfl,rfl,rfl⟩,hl.push _⟩,fun i v s' Q' E' hP hQ=>?_,fun h' tk hk=>?_⟩
 ·have hv:its[i]?=some v:=by simpa using hP
  have hi2:i<ns.length:=by rw[← hlen];exact (List.getElem?_eq_some_iff.mp hv).1
  obtain ⟨u,hu,ru⟩:=rv.get (i:=i) (x:=V.int (ns.getD i 0)) (by rw[List.getElem?_map,List.getElem?_eq_getElem hi2,List.getD_eq_getElem?_getD,List.getElem?_eq_getElem hi2];rfl)
  rw[hv] at hu
  cases hu
  obtain ⟨t,rfl⟩:=ru
  exact truthy_int hQ
 ·have hk':∀b o,s.heap.get? b=some o→h'.get? b=some o:=fun b x e=>hk b x (fun hm=>by rw[List.mem_singleton.mp hm] at e;exact Nat.lt_irrefl _ (Heap.lt_size e)) (Heap.get?_push_of_some _ e)
  have e:((List.range its.toArray.size).any fun i=>(ns.getD i 0 != 0))=ns.any fun z=>z != 0:=by
   rw[List.size_toArray,hlen];exact any_range ns
  rw[e]
  exact ⟨.bl _,H,I.kept hk',rfl,q⟩
end
theorem KT.drop {H:Hp} {kvs:List (List Key×V)} {xs:List (List Key×Addr×Value)} (r:KT H kvs xs) (k:List Key):KT H (dropK kvs k) (xs.filter fun x=>decide (x.1≠k)):=by
 unfold dropK
 induction r with
 | nil=>exact .nil
 | @cons p q ps qs h t ih=>
  rw[List.filter_cons,List.filter_cons]
  by_cases e:p.1=k
  ·have a:¬ decide (p.1≠k)=true:=by simp[e]
   have b:¬ decide (q.1≠k)=true:=by simp[h.1.symm.trans e]
   rw[if_neg a,if_neg b];exact ih
  ·have e':¬ q.1=k:=fun z=>e (h.1.trans z)
   have a:decide (p.1≠k)=true:=by simp[e]
   have b:decide (q.1≠k)=true:=by simp[e']
   rw[if_pos a,if_pos b];exact .cons h ih
theorem atKey_at {xs:List (List Key×Addr×Value)} {k:List Key} {p:Addr×Value} (h:atKey xs k=some p):∃j:Nat,xs[j]?=some (k,p):=by
 unfold atKey at h
 cases q:xs.find? (fun x=>decide (x.1=k)) with
 | none=>simp only[q] at h;cases h
 | some y=>
  have hk:y.1=k:=by have:=List.find?_some q;simpa using this
  have hy:y.2=p:=by simp only[q] at h;exact Option.some.inj h
  obtain ⟨j,hj,e⟩:=List.getElem_of_mem (List.mem_of_find?_eq_some q)
  exact ⟨j,by rw[List.getElem?_eq_getElem hj,e,← hk,← hy]⟩
section
variable {X:Cx} {pins:List (Addr×Obj)} {σ:L2.St} {H:Hp} {s:Shared} {a b:Addr} {A:Around} {E:Value→Shared→Prop}
theorem d_popT {kvs:List (List Key×V)} {k:List Key} {v:V} {Q:Value→Shared→Prop} (hu:A.units+1<cLine) (I:Inv X pins σ H s) (e:H a=some (.dT kvs)) (eb:H b=some (.tup (k.map kV))) (l:valV kvs k=some v)
  (h:∀w' s',Inv X pins σ (upd H a (.dT (dropK kvs k))) s'→RelV v w'→Q w' s'):wpAny (model X.prog X.w) A (call (.builtin "dict.pop") [.ref a,.ref b]) Q E s:=by
 obtain ⟨z,hd,xs,rel,dd⟩:=dt_of I.hok e
 have hz:xs.length≤sizeLine:=by rw[← Paired.length rel];exact z
 have hv:=rel.val k
 rw[l] at hv
 cases hk:atKey xs k with
 | none=>rw[hk] at hv;exact hv.elim
 | some p=>
  rw[hk] at hv
  obtain ⟨j,hj⟩:=atKey_at hk
  refine wpAny_call_entry PySem.F.slot_dict_pop dd.typeIs PySem.F.entry_dict_pop ?_ (PySem.F.args_dict_pop_2 _ _)
  unfold Builtin.«dict.pop»
  refine wpAny_bind ?_
  unfold Builtin.Dict.keyAndDefault
  refine wpAny_bind (wpAny_notOrdered_dict dd.typeIs ?_)
  show wpAny _ _ (pure (a,Value.ref b,none)) _ _ s
  refine wpAny_pure ?_
  obtain ⟨o,es,ep,ho,hc,hdt,he,his,hn⟩:=id dd
  have hkp:(keyPart (Value.ref b)).isSome=false:=rfl
  simp only[hkp,Bool.false_eq_true,if_false]
  refine wpAny_bind (wpAny_dictEntries ho hdt ?_)
  refine wpAny_bind (wpAny_pure ?_)
  have hemp:es.isEmpty=false:=by
   have h1:=size_of_entries he
   have h2:=(List.getElem?_eq_some_iff.mp hj).1
   rw[Array.isEmpty_eq_false_iff]
   intro q
   rw[q] at h1
   simp at h1
   omega
  simp only[hemp,Bool.false_eq_true,if_false]
  refine wpAny_bind (takeOut_heap (tupleKind_room_in1 hu) (key_of I.hok eb) dd hj (fun h' dd' sb=>?_) hz)
  simp only[Option.isNone_some,Bool.false_eq_true,if_false]
  refine wpAny_bind (wpAny_letGo (wpAny_pure ⟨_,rfl,h _ _ ?_ hv⟩))
  rw[erase_filter hn hj] at dd'
  obtain ⟨q,es',ep',hq,h2,h3,h4,_,h5⟩:=dd'
  refine d_write I (by rw[e];exact True.intro) sb ⟨q,hq⟩ ⟨?_,hd,_,(KT.drop rel k).keeps fun c ys ec=>?_,q,es',ep',hq,h2,h3,h4,h5⟩
  ·exact Nat.le_trans (dropK_le kvs k) z
  ·rw[Zn (ne_of ec e (fun z=>nomatch z))]
   exact ec
end
def tDPopT (td ty:TE):TE:=fun σ H Q=>td σ H fun x H1=>∃a,x=.ref a∧IsD H1 a∧ty σ H1 fun y H2=>∃kvs k b v,H2 a=some (.dT kvs)∧y=.ref b∧H2 b=some (.tup (k.map kV))∧valV kvs k=some v∧Q v (upd H2 a (.dT (dropK kvs k)))
section
variable {X:Cx} {o e:Expr} {apos cpos:Pos} {td ty:TE}
theorem pe_dpopT (hu:X.A.units+1<cLine) (ho:PE X o td) (he:PE X e ty) (m:M1 X o "pop" apos e cpos):PE X (.Call (.Attribute o "pop" apos) [e] [] cpos) (tDPopT td ty):=by
 intro pins s σ H Q I h
 refine wpAny_Call_method m.base m.few m.line PySem.F.plainAttrs_dict PySem.F.slot_dict_pop PySem.F.type_dict_pop (thn (ho pins s σ H _ I h) fun u s1 ⟨x,H1,I1,rx,a,ex,d,q1⟩=>?_)
 subst ex
 obtain rfl:u=Value.ref a:=rx
 obtain ⟨t1,t2,_⟩:=isD_at I1 d
 refine ⟨t1,t2,?_⟩
 rw[m.trees]
 refine Calls.callWith_builtin rfl (Calls.evalArgs_plain (Calls.spliced_cons (thn (he pins s1 σ H1 _ I1 q1) fun iv s2 ⟨y,H2,I2,ry,kvs,k,b,v,ea,ey,eb,l,q2⟩=>Calls.spliced_nil ?_)))
 subst ey
 obtain rfl:iv=Value.ref b:=ry
 exact d_popT hu I2 ea eb l fun w' s3 I3 rw'=>⟨v,_,I3,rw',q2⟩
end
section
variable {X:Cx} {pins:List (Addr×Obj)} {σ:L2.St} {H:Hp} {s:Shared} {a b:Addr} {A:Around} {E:Value→Shared→Prop}
theorem d_lenT {kvs:List (List Key×V)} {Q:Value→Shared→Prop} (I:Inv X pins σ H s) (e:H a=some (.dT kvs)) (h:∀t s',Inv X pins σ H s'→Q (.int kvs.length t) s'):wpAny (model X.prog X.w) A (call (.builtin "len") [.ref a]) Q E s:=by
 obtain ⟨z,hd,xs,rel,dd⟩:=dt_of I.hok e
 have hz:kvs.length=xs.length:=Paired.length rel
 obtain ⟨o,es,ep,ho,hc,hdt,he,his,hn⟩:=id dd
 have hsz:es.size=kvs.length:=by rw[size_of_entries he,hz]
 refine Calls.call_function_entry kind_len plain_len entry_len (args_len1 _) ?_
 unfold Builtin.«len»
 refine wpAny_bind (m:=oneArg "len" _) (wpAny_pure ?_)
 refine wpAny_bind (m:=callSpecial? (.ref a) (Str.ofString "__len__")) (wpAny_callSpecial?_slot (name:=Str.ofString "__len__") dd.typeIs F.slot_dict_len
  (wpAny_call_entry F.slot_dict_len dd.typeIs F.entry_dict_len ?_ (F.args_dict_len_1 _)))
 show wpAny _ _ (dictSize a >>= _) _ _ s
 unfold dictSize
 refine wpAny_bind (wpAny_bind (wpAny_dictEntries ho hdt (wpAny_pure ?_)))
 show wpAny _ _ (Builtin.Dict.pendingCount a >>= _) _ _ s
 refine wpAny_bind (wpAny_pendingCount_other hd ?_)
 refine wpAny_bind (wpAny_mkInt (wpAny_pure ⟨_,rfl,?_⟩))
 show wpAny _ _ _ _ _ { s with toks:=s.toks+1 }
 refine wpAny_bind (wpAny_holding (wpAny_pure ?_))
 refine wpAny_bind (wpAny_letGo ?_)
 have e0:((es.size-0:Nat):Int)=((kvs.length:Nat):Int):=by rw[hsz];rfl
 show wpAny _ _ (if ((es.size-0:Nat):Int)<0 then _ else _) _ _ _
 rw[if_neg (by omega)]
 show wpAny _ _ (if ((es.size-0:Nat):Int)≥2^63 then _ else _) _ _ _
 rw[sizeLine_eq] at z
 rw[if_neg (by omega)]
 refine wpAny_bind (wpAny_mkInt (wpAny_pure ⟨_,rfl,?_⟩))
 have:=h (s.toks+1) { s with toks:=s.toks+1+1 } (I.tok _)
 rw[← e0] at this
 exact this
theorem call_lenT:CallR X (.builtin "len") (fun xs H Q=>∃a kvs,xs=[V.ref a]∧H a=some (.dT kvs)∧Q (.int kvs.length) H):=by
 intro pins s σ H xs us Q I r h
 obtain ⟨a,kvs,rfl,ha,q⟩:=h
 rw[Vals.ref1 r]
 exact d_lenT I ha fun t s' I'=>⟨.int kvs.length,H,I',⟨t,rfl⟩,q⟩
end
section
variable {prog:Program} {w:World} {A:Around} {E:Value→Shared→Prop} {s:Shared}
theorem kdl_any {d:Addr} {o:Obj} {es:Array DictEntry} {ep:Nat} (lo:(d==sysModules)=false) (hx:o.ExactDict) (hd:o.data=.dict es ep):
  PySem.W.KdlSrc prog w "dict" d d es.size (fun i v=>∃en,es[i]?=some en∧en.key=v) (fun h=>h.get? d=some o) where
 type:=fun s e=>⟨o,e,hx.1⟩
 there:=fun h e=>⟨Heap.lt_size e,Heap.lt_size e⟩
 keep:=fun h h' e k=>k d (.inl rfl) o e
 notList:=by decide
 notTuple:=by decide
 hint:=fun A E s Q e hq=>PySem.W.kdl_hint_dict ⟨o,e,hx.1⟩ hq
 iter:=fun A s hh e=>⟨_,fun i h=>h.IsKeyIter s.heap.objs.size d i es.size ep∧h.get? d=some o,(fun E Q hq=>iter_keys lo e hx hd hq),{
  sub:=fun b hb=>by simp at hb;simp[hb]
  frame:=fun _ _ _ st hk=>⟨st.1.at fun o e=>hk _ (by simp) o e,hk d (by simp) _ st.2⟩
  item:=fun i s2 Q E hi st hQ=>by
   have hne:d≠s.heap.objs.size:=Nat.ne_of_lt (Heap.lt_size e)
   refine next_key_item st.1 st.2 hd rfl (Array.getElem?_eq_getElem hi) fun h' it' sb=>?_
   exact hQ _ h' s2.toks ⟨_,Array.getElem?_eq_getElem hi,rfl⟩ ⟨it',(sb.2 d hne).trans st.2⟩ fun b o hb e=>(sb.2 b (fun z=>hb (by simp[z]))).trans e
  done:=fun s2 Q E st hQ=>next_key_end hh st.1 st.2 hd rfl (Nat.le_refl _) fun h' he'=>hQ h' s2.toks fun b o hb e=>he' b o (fun z=>hb (by simp[z])) e
  self:=fun _ _ _ _ st hQ=>by
   refine wpAny_pyIter_slot st.1.typeIs F.slot_dict_keyiterator_iter (wpAny_call_entry F.slot_dict_keyiterator_iter st.1.typeIs F.entry_dict_keyiterator_iter ?_ (F.args_dict_keyiterator_iter_1 _))
   exact wpAny_pure ⟨_,rfl,"dict_keyiterator",_,st.1.typeIs,F.slot_dict_keyiterator_next.lookup,hQ⟩ },⟨⟨_,Heap.get?_push_size _ rfl,rfl,rfl⟩,Heap.get?_push_of_some _ e⟩⟩
end
def ltI (a b:List Int):Bool:=lexLt itemOrd (a.map Sum.inl) (b.map Sum.inl)
theorem tupItems_ints:∀{its:List Value} {ns:List Int} (i:Nat),IntsAre its ns→tupItems (fun _=>false) i its=some (ns.map Sum.inl)
 | _,_,_,.nil=>rfl
 | _,_,i,.cons n t r=>by
  show (if (false=true) then none else (tupItems (fun _=>false) (i+1) _).map (Sum.inl n::·))=_
  rw[if_neg Bool.false_ne_true,tupItems_ints (i+1) r]
  rfl
theorem tupsOf_of {h:Heap} {shape:Nat→Bool}:∀{vs:List Value},(∀v∈vs,∃f,TupOf h shape v f)→∃fs,TupsOf h shape vs fs
 | [],_=>⟨[],.nil⟩
 | v::vs,hv=>by
  obtain ⟨f,hf⟩:=hv v (by simp)
  obtain ⟨fs,hfs⟩:=tupsOf_of fun x hx=>hv x (List.mem_cons_of_mem _ hx)
  exact ⟨f::fs,.cons hf hfs⟩
theorem tupKeyC_of {h:Heap} {shape:Nat→Bool} {a:Addr} {o:Obj} {xs:Array Value} {n:Nat} {l:List (Int ⊕ List Nat)} (ho:h.get? a=some o) (hc:o.cls=.type "tuple") (hd:o.data=.seq xs n)
  (hi:tupItems shape 0 xs.toList=some l):G.tupKeyC h shape (.ref a)=some l:=by
 unfold G.tupKeyC
 have e1:G.isTupObj h (.ref a)=true:=by simp[G.isTupObj,ho,hc]
 rw[if_pos e1]
 simp only[tupKey,ho,hd]
 exact hi
section
variable {prog:Program} {w:World} {A:Around} {E:Value→Shared→Prop} {s:Shared}
theorem sorted_dict {d:Addr} {o:Obj} {es:Array DictEntry} {ep:Nat} {Q:Value→Shared→Prop} (hh:A.handled=none) (lo:(d==sysModules)=false) (ho:s.heap.get? d=some o) (hx:o.ExactDict) (hd:o.data=.dict es ep) (hn:es.size≤sizeLine)
  (key:Value→List Int)
  (ht:∀v∈es.toList.map (·.key),∃(q:Addr) (ob:Obj) (its:List Value) (m:Nat),v=.ref q∧s.heap.get? q=some ob∧ob.cls=.type "tuple"∧ob.data=.seq its.toArray m∧IntsAre its (key v)∧key v≠[])
  (h:∀(h1 h':Heap) (tk:Nat) (D:Addr) (out:List Value) (m:Nat),(∀b o,s.heap.get? b=some o→h1.get? b=some o)→(∀b o,h1.get? b=some o→h'.get? b=some o)→h1.objs.size≤D→h'.get? D=some { cls:=.type "list",data:=.seq out.toArray m }→
   out.Perm (es.toList.map (·.key))→out.Pairwise (fun x y=>ltI (key y) (key x)=false)→Q (.ref D) { s with heap:=h',toks:=tk }):
  wpAny (model prog w) A (call (.builtin "sorted") [.ref d]) Q E s:=by
 refine Calls.call_function_entry kind_sorted plain_sorted entry_sorted (args_sorted1 _) ?_
 unfold Builtin.«sorted»
 refine wpAny_bind (m:=checkCount "sorted" 1 1 _) (wpAny_pure ?_)
 refine wpAny_bind (PySem.W.kdu_collect (A:=A.in1) (kdl_any lo hx hd) hh ho hn fun h' tk acc hk hacc=>?_)
 have hl:acc.toList.length=es.size:=by rw[Array.length_toList];exact hacc.1
 have hacc':acc.toList=es.toList.map (·.key):=by
  apply List.ext_getElem?
  intro i
  by_cases hi:i<es.size
  ·have hi':i<acc.toList.length:=by rw[hl];exact hi
   obtain ⟨en,he,hv⟩:=hacc.2 i _ (by rw[← Array.getElem?_toList];exact List.getElem?_eq_getElem hi')
   rw[List.getElem?_eq_getElem hi',List.getElem?_map,Array.getElem?_toList,he,← hv]
   rfl
  ·rw[List.getElem?_eq_none (by omega),List.getElem?_eq_none (by rw[List.length_map,Array.length_toList];omega)]
 refine wpAny_bind (wpAny_newList ?_ (by rw[hl];exact hn))
 have hoL:(h'.push (seqObj "list" acc.toList.toArray 0)).get? h'.objs.size=some (seqObj "list" acc.toList.toArray 0):=Heap.get?_push_size _ rfl
 have hkey:∀v∈acc.toList,∃(q:Addr) (ob:Obj) (its:List Value) (m:Nat),v=.ref q∧(h'.push (seqObj "list" acc.toList.toArray 0)).get? q=some ob∧ob.cls=.type "tuple"∧ob.data=.seq its.toArray m∧IntsAre its (key v)∧key v≠[]:=by
  intro v hv
  rw[hacc'] at hv
  obtain ⟨q,ob,its,m,h1,h2,h3⟩:=ht v hv
  exact ⟨q,ob,its,m,h1,Heap.get?_push_of_some _ (hk _ _ h2),h3⟩
 have hkC:∀v∈acc.toList,G.tupKeyC (h'.push (seqObj "list" acc.toList.toArray 0)) (fun _=>false) v=some ((key v).map Sum.inl):=by
  intro v hv
  obtain ⟨q,ob,its,m,rfl,h2,h3,h4,h5,h6⟩:=hkey v hv
  exact tupKeyC_of h2 h3 h4 (tupItems_ints 0 h5)
 obtain ⟨fs,hts⟩:=tupsOf_of (h:=h'.push (seqObj "list" acc.toList.toArray 0)) (shape:=fun _=>false) (vs:=acc.toList) fun v hv=>by
  obtain ⟨q,ob,its,m,rfl,h2,h3,h4,h5,h6⟩:=hkey v hv
  cases its with
  | nil=>
   generalize hz:key (Value.ref q)=z at h5 h6
   cases h5
   exact absurd rfl h6
  | cons f its=>
   refine ⟨f,q,ob,_,m,rfl,h2,h3,h4,rfl,fun _=>?_,fun z=>(by cases z)⟩
   generalize hz:key (Value.ref q)=z at h5 h6
   cases h5
   exact ⟨_,_,rfl⟩
 show wpAny _ _ _ _ _ { s with heap:=h'.push (seqObj "list" acc.toList.toArray 0),toks:=tk }
 refine wpAny_bind (wpAny_holding (wpAny_call_entry slot_list_sort ⟨_,hoL,rfl⟩ entry_list_sort (G.list_sort_tups (shape:=fun _=>false) hoL hts (fun v hv=>⟨_,hkC v hv⟩) (by rw[hl];exact hn) fun st' a1 a2 a3=>⟨_,rfl,?retG⟩) (args_list_sort _)))
 case retG=>
  obtain ⟨ep',he'⟩:=sortedHeap_at (vs:=acc.toList) (out:=(arrOf st').map (·.2)) hoL
  have hp:(arrOf st').toList.Perm (acc.toList.zip acc.toList):=by
   have e:=Array.perm_iff_toList_perm.mp a1
   rw[pairsOf_toList] at e
   exact e
  have hsame:∀p∈(arrOf st').toList,p.1=p.2∧p.1∈acc.toList:=fun p hpm=>mem_zip_self (hp.mem_iff.mp hpm)
  have hmap:(acc.toList.zip acc.toList).map (·.2)=acc.toList:=by
   rw[List.map_snd_zip]
   exact Nat.le_refl _
  refine wpAny_pure ⟨_,rfl,h h' _ tk _ ((arrOf st').map (·.2)).toList ep' hk (fun b o e=>?_) (Nat.le_refl _) (by rw[Array.toArray_toList];exact he') ?_ ?_⟩
  ·rw[sortedHeap_old (Nat.ne_of_lt (Heap.lt_size e)) (by rw[size_push'];exact Nat.lt_succ_of_lt (Heap.lt_size e))]
   exact Heap.get?_push_of_some _ e
  ·rw[← hacc',Array.toList_map]
   have:=hp.map (·.2)
   rw[hmap] at this
   exact this
  ·rw[Array.toList_map]
   refine List.pairwise_map.mpr ?_
   rw[List.pairwise_iff_getElem]
   intro i j hi hj hij
   have hs:=a2 i j (Nat.le_of_lt hij) (by rw[pairsOf_size];have:=hp.length_eq;rw[List.length_zip,Nat.min_self] at this;omega)
   have hKK:∀(i:Nat) (hi:i<(arrOf st').toList.length),KK (G.tupKindC (h'.push (seqObj "list" acc.toList.toArray 0)) (fun _=>false)) (arrOf st') i=(key ((arrOf st').toList[i]).2).map Sum.inl:=by
    intro i hi
    have hm:=hsame _ (List.getElem_mem hi)
    unfold KK
    rw[← Array.getElem?_toList,List.getElem?_eq_getElem hi]
    show (G.tupKeyC _ _ _).getD []=_
    rw[hkC _ hm.2,hm.1]
    rfl
   rw[hKK i hi,hKK j hj] at hs
   exact hs
end
theorem ltI_cons {x y:Int} {a b:List Int}:ltI (x::a) (y::b)=(decide (x<y)||(!decide (y<x)&&ltI a b)):=rfl
theorem ltI_before:∀(a b:List Nat),ltI (a.map fun (n:Nat)=>(n:Int)) (b.map fun (n:Nat)=>(n:Int))=Md33.before a b
 | [],[]=>rfl
 | [],_::_=>rfl
 | _::_,[]=>rfl
 | x::a,y::b=>by
  rw[List.map_cons,List.map_cons,ltI_cons,ltI_before a b]
  show _=(decide (x<y)||(x==y&&Md33.before a b))
  by_cases h1:x<y
  ·simp[h1]
  ·by_cases h2:x=y
   ·subst h2;simp
   ·have h3:y<x:=by omega
    simp[h1,h2,h3]
def kN (n:List Nat):List Key:=n.map fun (x:Nat)=>Sum.inl (x:Int)
theorem kN_V (n:List Nat):(kN n).map kV=nats n:=by
 unfold kN
 rw[List.map_map];rfl
theorem kN_inj:∀{a b:List Nat},kN a=kN b→a=b
 | [],[],_=>rfl
 | [],_::_,e=>by cases e
 | _::_,[],e=>by cases e
 | x::a,y::b,e=>by
  have e':(Sum.inl (x:Int):Key)::kN a=Sum.inl (y:Int)::kN b:=e
  injection e' with e1 e2
  have:=Sum.inl.inj e1
  rw[kN_inj e2,Int.ofNat.inj this]
section
variable {X:Cx}
def intOf:V→Int
 | .int z=>z
 | _=>0
def keyAt (H:Hp):Value→List Int
 | .ref q=>match H q with
  | some (.tup ys)=>ys.map intOf
  | _=>[]
 | _=>[]
def adrOf:Value→Addr
 | .ref q=>q
 | _=>0
def nameAt (H:Hp) (v:Value):List Nat:=(keyAt H v).map Int.toNat
theorem map_kN_inj:∀{a b:List (List Nat)},a.map kN=b.map kN→a=b
 | [],[],_=>rfl
 | [],_::_,e=>by cases e
 | _::_,[],e=>by cases e
 | x::a,y::b,e=>by
  rw[List.map_cons,List.map_cons] at e
  injection e with e1 e2
  rw[kN_inj e1,map_kN_inj e2]
theorem toNat_map (n:List Nat):(n.map fun (x:Nat)=>(x:Int)).map Int.toNat=n:=by
 rw[List.map_map]
 exact (List.map_congr_left fun x _=>rfl).trans (List.map_id n)
def rSortD:List V→Hp→VK→Prop:=fun vs H Q=>∃(a:Addr) (kvs:List (List Key×V)) (nm:List (List Nat)),vs=[V.ref a]∧H a=some (.dT kvs)∧kvs.map (·.1)=nm.map kN∧(∀n∈nm,n≠[]) ∧
 ∀(p:Addr) (qs:List Addr) (out:List (List Nat)),H p=none→out.Perm nm→out.Pairwise (fun x y=>Md33.before y x=false)→qs.length=out.length→(∀(i:Nat) (q:Addr) (n:List Nat),qs[i]?=some q→out[i]?=some n→H q=some (.tup (nats n)))→Q (.ref p) (upd H p (.lst (qs.map V.ref)))
theorem call_sortedD (hc:X.calm=true):CallR X (.builtin "sorted") rSortD:=by
 intro pins s σ H vs us Q I r h
 obtain ⟨a,kvs,nm,rfl,ha,hnm,hne,q⟩:=h
 rw[Vals.ref1 r]
 obtain ⟨z,hd,xs,rel,o,es,ep,ho,hx,hdt,he,his,hn⟩:=dt_of I.hok ha
 have hlen:kvs.length=xs.length:=Paired.length rel
 have hes:es.size=xs.length:=size_of_entries he
 have hkeys:es.toList.map (·.key)=xs.map fun x=>Value.ref x.2.1:=by
  rw[he,List.map_map];rfl
 have hex:∀x∈xs,∃n∈nm,x.1=kN n∧H x.2.1=some (.tup (nats n)):=by
  have all:∀{l:List (List Key×V)} {m:List (List Key×Addr×Value)},KT H l m→∀x∈m,x.1∈l.map (·.1)∧H x.2.1=some (.tup (x.1.map kV)):=by
   intro l m r
   induction r with
   | nil=>intro x hx;cases hx
   | @cons p q ps qs h t ih=>
    intro x hx
    rcases List.mem_cons.mp hx with e|hx
    ·subst e
     exact ⟨by simp[h.1],by rw[← h.1];exact h.2.1⟩
    ·exact ⟨List.mem_cons_of_mem _ (ih x hx).1,(ih x hx).2⟩
  intro x hx
  obtain ⟨h1,h2⟩:=all rel x hx
  rw[hnm] at h1
  obtain ⟨n,hn1,hn2⟩:=List.mem_map.mp h1
  refine ⟨n,hn1,hn2.symm,?_⟩
  rw[h2,← hn2,kN_V]
 have hkey:∀{q:Addr} {n:List Nat},H q=some (.tup (nats n))→keyAt H (.ref q)=n.map fun (x:Nat)=>(x:Int):=fun {q n} e=>by
  show (match H q with
   | some (.tup ys)=>ys.map intOf
   | _=>[])=_
  rw[e]
  show (nats n).map _=_
  rw[List.map_map];rfl
 refine sorted_dict (I.ok.hd hc) hd ho hx hdt (by omega) (keyAt H) (fun v hv=>?_) fun h1 h' tk D out m k1 k2 hD hg hp hs=>?_
 ·rw[hkeys] at hv
  obtain ⟨x,hxm,rfl⟩:=List.mem_map.mp hv
  obtain ⟨n,hn1,hn2,hn3⟩:=hex x hxm
  obtain ⟨_,its,rv,ob,g1,g2,m,g3⟩:=(show ObjOk X.prog X.w H s.heap x.2.1 (.tup (nats n)) from I.hok _ _ hn3)
  refine ⟨x.2.1,ob,its,m,rfl,g1,g2,g3,?_,?_⟩
  ·rw[hkey hn3]
   refine Vals.ints ?_
   rw[List.map_map];exact rv
  ·rw[hkey hn3]
   intro e
   exact hne n hn1 (List.map_eq_nil_iff.mp e)
 ·rw[hkeys] at hp
  have hnameAt:∀{q:Addr} {n:List Nat},H q=some (.tup (nats n))→nameAt H (.ref q)=n:=fun {q n} e=>by
   unfold nameAt
   rw[hkey e,toNat_map]
  have hmem:∀v∈out,∃(q:Addr) (n:List Nat),v=.ref q∧H q=some (.tup (nats n)):=fun v hv=>by
   obtain ⟨x,hxm,rfl⟩:=List.mem_map.mp (hp.mem_iff.mp hv)
   obtain ⟨n,_,_,hn3⟩:=hex x hxm
   exact ⟨_,n,rfl,hn3⟩
  have hxk:xs.map (fun x=>nameAt H (.ref x.2.1))=nm:=by
   apply map_kN_inj
   rw[← hnm,List.map_map]
   have e1:xs.map (·.1)=kvs.map (·.1):=by
    have all:∀{l:List (List Key×V)} {m:List (List Key×Addr×Value)},KT H l m→m.map (·.1)=l.map (·.1):=by
     intro l m r
     induction r with
     | nil=>rfl
     | @cons p q ps qs h t ih=>rw[List.map_cons,List.map_cons,ih,h.1]
    exact all rel
   rw[← e1]
   refine List.map_congr_left fun x hxm=>?_
   obtain ⟨n,_,hn2,hn3⟩:=hex x hxm
   show kN (nameAt H (.ref x.2.1))=x.1
   rw[hnameAt hn3,hn2]
  have I1:Inv X pins σ H { s with heap:=h1,toks:=s.toks }:=I.kept k1
  have hfr:H D=none:=I1.hok.fresh hD
  have hol:out.length=kvs.length:=by rw[hp.length_eq,List.length_map,hlen]
  have hvals:Vals ((out.map adrOf).map V.ref) out:=by
   have:∀l:List Value,(∀v∈l,∃(q:Addr) (n:List Nat),v=.ref q∧H q=some (.tup (nats n)))→Vals ((l.map adrOf).map V.ref) l:=by
    intro l
    induction l with
    | nil=>intro _;exact .nil
    | cons v l ih=>
     intro hl
     obtain ⟨q,n,rfl,_⟩:=hl v (by simp)
     exact .cons rfl (ih fun u hu=>hl u (List.mem_cons_of_mem _ hu))
   exact this out hmem
  refine ⟨.ref D,upd H D (.lst ((out.map adrOf).map V.ref)),I1.laid (t':=tk) k2 hD ⟨by rw[List.length_map,List.length_map];omega,out,m,hvals,hg⟩,rfl,
   q D (out.map adrOf) (out.map (nameAt H)) hfr ?_ ?_ (by rw[List.length_map,List.length_map]) fun i q' n h1' h2'=>?_⟩
  ·have:=hp.map (nameAt H)
   rw[List.map_map] at this
   rw[← hxk]
   exact this
  ·refine List.pairwise_map.mpr (List.Pairwise.imp_of_mem (fun {x y} hx hy hxy=>?_) hs)
   obtain ⟨q1,n1,rfl,g1⟩:=hmem x hx
   obtain ⟨q2,n2,rfl,g2⟩:=hmem y hy
   rw[hkey g1,hkey g2,ltI_before] at hxy
   rw[hnameAt g1,hnameAt g2]
   exact hxy
  ·rw[List.getElem?_map] at h1' h2'
   cases ho':out[i]? with
   | none=>rw[ho'] at h1';cases h1'
   | some v=>
    rw[ho'] at h1' h2'
    obtain ⟨q3,n3,rfl,g3⟩:=hmem v (List.mem_of_getElem? ho')
    have e1:q3=q':=Option.some.inj h1'
    have e2:nameAt H (.ref q3)=n:=Option.some.inj h2'
    rw[hnameAt g3] at e2
    rw[← e1,← e2]
    exact g3
end
end Kb
namespace Kb
open PySem L2
theorem cut_nn {l:List Nat} {i j:Nat}:cutV (nats l) (some (i:Int)) (some (j:Int))=nats ((l.drop i).take (j-i)):=by
 unfold cutV
 rw[HT.sIx_nat,HT.sIx_nat,List.length_map,← List.map_drop,← List.map_take]
 congr 1
 by_cases h:i≤l.length
 ·rw[Nat.min_eq_left h]
  by_cases h2:j≤l.length
  ·rw[Nat.min_eq_left h2]
  ·rw[Nat.min_eq_right (by omega),List.take_of_length_le (by rw[List.length_drop];exact Nat.le_refl _),List.take_of_length_le (by rw[List.length_drop];omega)]
 ·have e:min i l.length=l.length:=by omega
  rw[e,List.drop_of_length_le (Nat.le_refl _),List.drop_of_length_le (by omega)]
  simp
theorem sIx_neg {n d k:Nat} (hk:0<k):HT.sIx n d (some (-(k:Int)))=n-k:=by
 show (if (-(k:Int))<0 then ((-(k:Int))+(n:Int)).toNat else min (-(k:Int)).toNat n)=n-k
 rw[if_pos (by omega)];omega
theorem cut_last {l:List Nat} {k:Nat} (hk:0<k):cutV (nats l) (some (-(k:Int))) none=nats (l.drop (l.length-k)):=by
 unfold cutV
 rw[sIx_neg hk,HT.sIx_none,List.length_map,← List.map_drop,← List.map_take,List.take_of_length_le (by rw[List.length_drop];exact Nat.le_refl _)]
theorem cut_but {l:List Nat} {k:Nat} (hk:0<k):cutV (nats l) none (some (-(k:Int)))=nats (l.take (l.length-k)):=by
 unfold cutV
 rw[sIx_neg hk,HT.sIx_none,List.length_map,← List.map_drop,← List.map_take,List.drop_zero,Nat.sub_zero]
theorem cut_mid {l:List Nat} {i k:Nat} (hk:0<k):cutV (nats l) (some (i:Int)) (some (-(k:Int)))=nats ((l.take (l.length-k)).drop i):=by
 unfold cutV
 rw[sIx_neg hk,HT.sIx_nat,List.length_map,← List.map_drop,← List.map_take]
 congr 1
 rw[List.drop_take]
 by_cases h:i≤l.length
 ·rw[Nat.min_eq_left h]
 ·rw[Nat.min_eq_right (by omega),List.drop_of_length_le (Nat.le_refl _),List.drop_of_length_le (by omega)]
  simp
def dat (l:List Nat):List PyData:=l.map fun (n:Nat)=>PyData.int (n:Int)
theorem Jk {K:PySem.W.Frag} {H:Hp}:∀l:List Nat,DpAll K H (nats l) (dat l)
 | []=>.nil
 | n::l=>.cons (.int _) (Jk l)
theorem eqvAll_nats:∀a b:List Nat,PyData.eqvAll (dat a) (dat b)=decide (a=b)
 | [],[]=>rfl
 | [],_::_=>rfl
 | _::_,[]=>rfl
 | x::a,y::b=>by
  show ((x:Int)==(y:Int)&&PyData.eqvAll (dat a) (dat b))=_
  rw[eqvAll_nats a b]
  by_cases h:x=y
  ·subst h;simp
  ·have:((x:Int)==(y:Int))=false:=by simp;omega
   rw[this];simp[h]
theorem canLay_nats:∀l:List Nat,PyData.canLayAll0 (dat l)=true
 | []=>rfl
 | n::l=>by
  show (true&&PyData.canLayAll0 (dat l))=true
  rw[canLay_nats l];rfl
theorem depth_nats:∀l:List Nat,PyData.depthAll (dat l)=0
 | []=>rfl
 | n::l=>by
  show max 0 (PyData.depthAll (dat l))=0
  rw[depth_nats l];rfl
theorem shaped_l (l:List Nat):SeqAt.shaped (.list (dat l))=true:=by
 unfold SeqAt.shaped
 show (PyData.canLayAll0 (dat l)&&decide (PyData.depthAll (dat l)+1≤64))=true
 rw[canLay_nats,depth_nats];rfl
theorem shaped_t (l:List Nat):SeqAt.shaped (.tuple (dat l))=true:=by
 unfold SeqAt.shaped
 show (PyData.canLayAll0 (dat l)&&decide (PyData.depthAll (dat l)+1≤64))=true
 rw[canLay_nats,depth_nats];rfl
section
variable {K:PySem.W.Frag} {H:Hp} {Q:VK} {a b:Addr} {l m:List Nat}
theorem req (ha:H a=some (.lst (nats l))) (hb:H b=some (.lst (nats m))) (q:Q (.bl (decide (l=m))) H):rEqD K (.ref a) (.ref b) H Q:=
 ⟨_,_,.lst (SqL.of ha) (Jk l),.lst (SqL.of hb) (Jk m),shaped_l l,shaped_l m,by
  show Q (.bl (PyData.eqvAll (dat l) (dat m))) H
  rw[eqvAll_nats];exact q⟩
theorem rne (ha:H a=some (.lst (nats l))) (hb:H b=some (.lst (nats m))) (q:Q (.bl (!decide (l=m))) H):rNeD K (.ref a) (.ref b) H Q:=
 ⟨_,_,.lst (SqL.of ha) (Jk l),.lst (SqL.of hb) (Jk m),shaped_l l,shaped_l m,by
  show Q (.bl (!PyData.eqvAll (dat l) (dat m))) H
  rw[eqvAll_nats];exact q⟩
theorem reqT (ha:H a=some (.tup (nats l))) (hb:H b=some (.tup (nats m))) (q:Q (.bl (decide (l=m))) H):rEqD K (.ref a) (.ref b) H Q:=
 ⟨_,_,.tup (SqT.of ha) (Jk l),.tup (SqT.of hb) (Jk m),shaped_t l,shaped_t m,by
  show Q (.bl (PyData.eqvAll (dat l) (dat m))) H
  rw[eqvAll_nats];exact q⟩
end
def rTupOf (K:PySem.W.Frag):List V→Hp→VK→Prop:=fun xs H Q=>∃p ys,xs=[.ref p]∧((SqL K H p ys∧∀l,H l=none→Q (.ref l) (upd H l (.tup ys)))∨(SqT K H p ys∧Q (.ref p) H))
theorem call_tupOf {X:Cx} {K:PySem.W.Frag} (hK:X.K=K):CallR X (.type "tuple") (rTupOf K):=by subst hK;exact call_tuple_of
section
variable {K:PySem.W.Frag} {H:Hp} {Q:VK} {a C dx:Addr} {f:Str} {fs:List (Str×V)} {v:V}
end
def Qr (F:List Addr) (H H':Hp):Prop:=∀p o,p∉F→H p=some o→H' p=some o
theorem Qr.refl (F:List Addr) (H:Hp):Qr F H H:=fun _ _ _ e=>e
theorem Qr.of_same {F:List Addr} {H H':Hp} (s:Same H H'):Qr F H H':=fun p o _ e=>s p o e
theorem Qr.trans {F:List Addr} {H H' H'':Hp} (a:Qr F H H') (b:Qr F H' H''):Qr F H H'':=fun p o n e=>b p o n (a p o n e)
theorem Qr.mono {F G:List Addr} {H H':Hp} (a:Qr F H H') (h:∀p∈F,p∈G):Qr G H H':=fun p o n e=>a p o (fun z=>n (h p z)) e
theorem Qr.upd {F:List Addr} {H:Hp} {x:Addr} {o:HO} (h:x∈F):Qr F H (L2.upd H x o):=fun p u n e=>by
 rw[Zn (fun z=>n (by rw[z];exact h))];exact e
theorem Qr.new {F:List Addr} {H:Hp} {x:Addr} {o:HO} (h:H x=none):Qr F H (L2.upd H x o):=.of_same (Zk h)
def Off (M:List Addr) (H:Hp) (p:Addr) (o:HO):Prop:=H p=some o∧p∉M
theorem Off.keep {M F M':List Addr} {H H':Hp} {p:Addr} {o:HO} (h:Off M H p o) (k:Qr F H H') (hF:∀x∈F,x∈M) (hM:∀x∈M',x∈M∨H x=none):Off M' H' p o:=by
 refine ⟨k p o (fun z=>h.2 (hF p z)) h.1,fun z=>?_⟩
 rcases hM p z with z|z
 ·exact h.2 z
 ·rw[h.1] at z;cases z
theorem Off.keep1 {M F:List Addr} {H H':Hp} {p:Addr} {o:HO} (h:Off M H p o) (k:Qr F H H') (hF:∀x∈F,x∈M):Off M H' p o:=h.keep k hF fun x hx=>.inl hx
section
variable {P:Program} {w:World} {K:PySem.W.Frag} {mg:Str→Option Value} {base:Heap} {t:Adr}
def sp_turned_left :Sp:=fun vs H Q _=>∃(z y:Int) (x k:Nat),vs=[.int z,.int y]∧z=(x:Int)∧y=(k:Int)∧x<2^32∧k≤32∧Q (nV (Md33.rotate k x)) H
theorem ok_turned_left (T:Txt K mg t):OkF P w K mg base 1 "turned_left" ["word","bits"] (sp_turned_left ):=by
 refine okF T.d_turned_left sc_turned_left (fun vs H Q E h=>?_) (fun f cdv A outer s H vs Q E hr h=>?_)
 ·obtain ⟨_,_,x,k,rfl,rfl,rfl,hx,hk,q⟩:=h
  rfl
 ·obtain ⟨_,_,x,k,rfl,rfl,rfl,hx,hk,q⟩:=h
  refine ⟨_,(Ze (Zj (Zm op_and (Zm op_or (Zm op_shl (pv 0) (pv 1)) (Zm op_shr (pv 0) (Zm Jp Zf (pv 1)))) (pgi rfl T.c_WORD_MASK)))),?_⟩
  (repeat (first|refine ⟨_,rfl,?_⟩|refine ⟨_,_,rfl,rfl,?_⟩|refine ⟨⟨by omega,by omega,by omega⟩,?_⟩|refine ⟨by omega,?_⟩))
  refine to q ?_
  have e1:(32-(k:Int)).toNat=32-k:=by omega
  rw[e1,Int.toNat_natCast,sl,sr,bo,show (4294967295:Int)=((4294967295:Nat):Int) from rfl,ba,and_mask32]
  exact congrArg _ (rotl_eq hx)
def sp_blended :Sp:=fun vs H Q _=>∃(z:Int) (k:Nat) (s:Md33.Five),vs=[.int z,nV s.b,nV s.c,nV s.d]∧z=(k:Int)∧s.b<2^32∧Q (nV (Md33.mixed k s+Md33.constant k)) H
theorem ok_blended (T:Txt K mg t):OkF P w K mg base 1 "blended" ["step","b","c","d"] (sp_blended ):=by
 refine okF T.d_blended sc_blended (fun vs H Q E h=>?_) (fun f cdv A outer s H vs Q E hr h=>?_)
 ·obtain ⟨_,k,s,rfl,rfl,hb,q⟩:=h
  rfl
 ·obtain ⟨_,k,s,rfl,rfl,hb,q⟩:=h
  refine ⟨_,(Zb (Z4 (Zu op_lt (pv 0) Zf (Qv _)) (Ze (Zj (Zm Z5 (Zm op_or (Zm op_and (pv 1) (pv 2)) (Zm op_and (Zm Yc (pv 1) (pgi rfl T.c_WORD_MASK)) (pv 3))) Zf))) Zr)
   (Zb (Z4 (Zu op_lt (pv 0) Zf (Qv _)) (Ze (Zj (Zm Z5 (Zm Yc (Zm Yc (pv 1) (pv 2)) (pv 3)) Zf))) Zr)
   (Zb (Z4 (Zu op_lt (pv 0) Zf (Qv _)) (Ze (Zj (Zm Z5 (Zm op_or (Zm op_or (Zm op_and (pv 1) (pv 2)) (Zm op_and (pv 1) (pv 3))) (Zm op_and (pv 2) (pv 3))) Zf))) Zr)
   (Ze (Zj (Zm Z5 (Zm Yc (Zm Yc (pv 1) (pv 2)) (pv 3)) Zf)))))),?_⟩
  refine ⟨_,rfl,_,_,rfl,rfl,_,rfl,ite2 (fun h=>?_) fun h=>?_⟩
  ·have hk:k<20:=by have:=of_decide_eq_true h;omega
   (repeat (first|refine ⟨_,rfl,?_⟩|refine ⟨_,_,rfl,rfl,?_⟩|refine ⟨⟨by omega,by omega,by omega⟩,?_⟩|refine ⟨by omega,?_⟩))
   refine to q ?_
   rw[show (4294967295:Int)=((4294967295:Nat):Int) from rfl,ba,bx,ba,bo,xor_mask hb]
   unfold Md33.mixed Md33.constant
   rw[if_pos hk,if_pos hk]
   rfl
  have h20:¬ k<20:=fun z=>h (decide_eq_true (by omega))
  refine ⟨_,rfl,_,_,rfl,rfl,_,rfl,ite2 (fun h=>?_) fun h=>?_⟩
  ·have hk:k<40:=by have:=of_decide_eq_true h;omega
   (repeat (first|refine ⟨_,rfl,?_⟩|refine ⟨_,_,rfl,rfl,?_⟩|refine ⟨⟨by omega,by omega,by omega⟩,?_⟩|refine ⟨by omega,?_⟩))
   refine to q ?_
   rw[bx,bx]
   unfold Md33.mixed Md33.constant
   rw[if_neg h20,if_pos hk,if_neg h20,if_pos hk]
   rfl
  have h40:¬ k<40:=fun z=>h (decide_eq_true (by omega))
  refine ⟨_,rfl,_,_,rfl,rfl,_,rfl,ite2 (fun h=>?_) fun h=>?_⟩
  ·have hk:k<60:=by have:=of_decide_eq_true h;omega
   (repeat (first|refine ⟨_,rfl,?_⟩|refine ⟨_,_,rfl,rfl,?_⟩|refine ⟨⟨by omega,by omega,by omega⟩,?_⟩|refine ⟨by omega,?_⟩))
   refine to q ?_
   rw[ba,ba,ba,bo,bo]
   unfold Md33.mixed Md33.constant
   rw[if_neg h20,if_neg h40,if_pos hk,if_neg h20,if_neg h40,if_pos hk]
   rfl
  have h60:¬ k<60:=fun z=>h (decide_eq_true (by omega))
  (repeat (first|refine ⟨_,rfl,?_⟩|refine ⟨_,_,rfl,rfl,?_⟩|refine ⟨⟨by omega,by omega,by omega⟩,?_⟩|refine ⟨by omega,?_⟩))
  refine to q ?_
  rw[bx,bx]
  unfold Md33.mixed Md33.constant
  rw[if_neg h20,if_neg h40,if_neg h60,if_neg h20,if_neg h40,if_neg h60]
  rfl
def sp_high_first :Sp:=fun vs H Q _=>∃(z y:Int) (n c:Nat),vs=[.int z,.int y]∧z=(n:Int)∧y=(c:Int)∧c≤64∧∀r H',Same H H'→H r=none→H' r=some (.lst (nats (Md33.low c n).reverse))→Q (.ref r) H'
theorem ok_high_first (T:Txt K mg t):OkF P w K mg base 1 "high_first" ["number","count"] (sp_high_first ):=by
 refine okF T.d_high_first sc_high_first (fun vs H Q E h=>?_) (fun f cdv A outer s H vs Q E hr h=>?_)
 ·obtain ⟨_,_,n,c,rfl,rfl,rfl,hc,q⟩:=h
  rfl
 ·obtain ⟨_,_,n,c,rfl,rfl,rfl,hc,q⟩:=h
  refine ⟨_,(Ze (Zj (pe_lc rfl sc_high_first.nd (Xw rfl T.n_range (Za (Zm Jp (pv 1) Zf) (Za (pe_un un_neg Zf) (Za (pe_un un_neg Zf) Zd)))) (Xt (N:=["number","count","place"]) (sc:=Qs s_high_first) (own:=[("place",2)]) (by decide +kernel)) (fun _ _ _ _ _=>(Z3 (i:=2) sc_high_first.nd rfl (Or.inl rfl))) (fun _ _ _ _ _=>pts_nil) (fun _ _ _ _ _=>(Zm op_and (Zm op_shr (pv 0) (Zm op_mul Zf (pv 2))) Zf))))),?_⟩
  refine ⟨_,rfl,_,_,rfl,rfl,_,rfl,_,rfl,(c:Int)-1,-1,-1,c,rfl,?_,fun D hD=>lc_rngC (fun i=>nV (n/256^(c-1-i)%256)) (sz20 (by omega)) hD (fun i H' hi s1 N hN=>?_) fun H' s1 h1=>?_⟩
  ·have:=RgC.neg (i:=(c:Int)-1) (j:=-1) (by omega) (by omega) (by omega) (by omega)
   rw[show ((c:Int)-1 - -1).toNat=c by omega] at this
   exact this
  ·refine ⟨_,rfl,_,rfl,_,_,rfl,rfl,.inl ⟨by decide,by decide⟩,_,_,rfl,rfl,by omega,_,_,rfl,rfl,?_⟩
   refine to (hN _ (Same.refl _)) ?_
   rw[show (8*((c:Int)-1+(i:Nat) * -1)).toNat=8*(c-1-i) by omega,sr,show (255:Int)=((255:Nat):Int) from rfl,ba,and_mask8,pow256]
  ·refine q D H' s1 hD ?_
   rw[h1,rev_low,nats,List.map_map]
   rfl
def sp_tail_of :Sp:=fun vs H Q _=>∃(z:Int) (n:Nat),vs=[.int z]∧z=(n:Int)∧n≤1100000∧∀r H',Same H H'→H r=none→H' r=some (.lst (nats (tailOf n)))→Q (.ref r) H'
theorem ok_tail_of (T:Txt K mg t):OkF P w K mg base 2 "tail_of" ["length"] (sp_tail_of ):=by
 refine okF T.d_tail_of sc_tail_of (fun vs H Q E h=>?_) (fun f cdv A outer s H vs Q E hr h=>?_)
 ·obtain ⟨_,n,rfl,rfl,hn,q⟩:=h
  rfl
 ·obtain ⟨_,n,rfl,rfl,hn,q⟩:=h
  refine ⟨_,(Zb (Zo (i:=1) sc_tail_of.nd rfl (Or.inl rfl) (Zm op_mod (Zm Jp (Zm Jp (pgi rfl T.c_BLOCK_BYTES_digest) Zf) (pv 0)) (pgi rfl T.c_BLOCK_BYTES_digest)))
   (Ze (Zj (Zm Yl (Zm Yl (Zz (Za Zf Zd)) (Zm op_rep (Zz (Za Zf Zd)) (pv 1))) (pf (ok_high_first T) hr (Za (Zm op_mul (pv 0) Zf) (Za Zf Zd))))))),?_⟩
  refine ⟨_,_,rfl,rfl,_,rfl,_,_,rfl,rfl,_,_,rfl,rfl,(by show (0:Int)<64;decide),by decide,fun p1 h1=>⟨by decide,fun p2 h2=>⟨_,rfl,?_⟩⟩⟩
  have m0:=Int.emod_nonneg (64-9-(n:Int)) (show (64:Int)≠0 by decide)
  have m1:=Int.emod_lt_of_pos (64-9-(n:Int)) (show (0:Int)<64 by decide)
  refine ⟨p2,_,[.int 0],rfl,rfl,Zc,by omega,by omega,?_,fun p3 h3=>?_⟩
  ·show 1*_≤sizeLine
   rw[Qt];omega
  have s1:=Zk (o:=.lst [.int 128]) h1
  have s2:=Zk (o:=.lst [.int 0]) h2
  have s3:=Zk (o:=.lst (List.replicate ((64-9-(n:Int))%64).toNat [V.int 0]).flatten) h3
  refine rcat (s3 _ _ (s2 _ _ Zc)) Zc ?_ fun p4 h4=>?_
  ·rw[rep_one,List.length_replicate]
   show 1+_≤sizeLine
   rw[Qt];omega
  rw[rep_one,zeros_eq] at s3 h4 ⊢
  refine ⟨_,rfl,_,_,rfl,rfl,.inr ⟨by decide,by decide⟩,_,_,8*n,8,rfl,by omega,rfl,by decide,fun r H' s5 hr5 e5=>?_⟩
  refine rcat (s5 _ _ Zc) e5 ?_ fun p6 h6=>?_
  ·simp only[List.length_append,List.length_cons,List.length_nil,List.length_replicate,List.length_map,List.length_reverse,Zy]
   rw[Qt];omega
  have s4:=Zk (o:=.lst ([.int 128]++List.replicate ((119-n%64)%64) (V.int 0))) h4
  have s6:=Zk (o:=.lst ([.int 128]++List.replicate ((119-n%64)%64) (V.int 0)++nats (Md33.low 8 (8*n)).reverse)) h6
  have S:=((((s1.trans s2).trans s3).trans s4).trans s5)
  refine q p6 _ (S.trans s6) (S.free h6) ?_
  rw[Zc]
  congr 2
  unfold tailOf
  rw[Z2]
  congr 1
  show _=nV 128::nats _
  rw[nats_rep]
  rfl
def sp_spread :Sp:=fun vs H Q _=>∃(a:Addr) (l:List Nat),vs=[.ref a]∧H a=some (.lst (nats l))∧l.length=64∧(∀x∈l,x<256)∧∀r H',Same H H'→H r=none→H' r=some (.lst (nats (sched 80 l)))→Q (.ref r) H'
theorem ok_spread (T:Txt K mg t):OkF P w K mg base 2 "spread" ["block"] (sp_spread ):=by
 refine okF T.d_spread sc_spread (fun vs H Q E h=>?_) (fun f cdv A outer s H vs Q E hr h=>?_)
 ·obtain ⟨a,l,rfl,ha,hl,hb,q⟩:=h
  rfl
 ·obtain ⟨a,l,rfl,ha,hl,hb,q⟩:=h
  refine ⟨_,(Zb (Zo (i:=1) sc_spread.nd rfl (Or.inl rfl) (Zz Zd))
   (Zb (Y2 PassesOwn.never rfl (Xw rfl T.n_range (Za Zf (Za (pgi rfl T.c_BLOCK_BYTES_digest) (Za Zf Zd)))) (Z3 (i:=2) sc_spread.nd rfl (Or.inl rfl)) (Ze (Z6 (Yu (K:=K) rfl PySem.F.plainAttrs_list PySem.F.slot_list_append PySem.F.type_list_append Yk (pv 1) (Za (Zm op_or (Zm op_or (Zm op_or (Zm op_shl (Zx (Zl (K:=K) rfl) (pv 0) (pv 2) (fun _ _=>rfl)) Zf) (Zm op_shl (Zx (Zl (K:=K) rfl) (pv 0) (Zm Z5 (pv 2) Zf) (fun _ _=>rfl)) Zf)) (Zm op_shl (Zx (Zl (K:=K) rfl) (pv 0) (Zm Z5 (pv 2) Zf) (fun _ _=>rfl)) Zf)) (Zx (Zl (K:=K) rfl) (pv 0) (Zm Z5 (pv 2) Zf) (fun _ _=>rfl))) Zd)))))
   (Zb (Y2 PassesOwn.never rfl (pi_range2 rfl T.n_range (Za Zf (Za Zf Zd))) (Z3 (i:=2) sc_spread.nd rfl (Or.inl rfl)) (Ze (Z6 (Yu (K:=K) rfl PySem.F.plainAttrs_list PySem.F.slot_list_append PySem.F.type_list_append Yk (pv 1) (Za (pf (ok_turned_left T) hr (Za (Zm Yc (Zm Yc (Zm Yc (Zx (Zl (K:=K) rfl) (pv 1) (Zm Jp (pv 2) Zf) (fun _ _=>rfl)) (Zx (Zl (K:=K) rfl) (pv 1) (Zm Jp (pv 2) Zf) (fun _ _=>rfl))) (Zx (Zl (K:=K) rfl) (pv 1) (Zm Jp (pv 2) Zf) (fun _ _=>rfl))) (Zx (Zl (K:=K) rfl) (pv 1) (Zm Jp (pv 2) Zf) (fun _ _=>rfl))) (Za Zf Zd))) Zd)))))
   (Ze (Zj (pv 1)))))),?_⟩
  refine ⟨by decide,fun p hp=>⟨0,64,4,16,rfl,⟨by decide,by decide,by decide,by decide⟩,Jj (fun i σ H2=>∃v,σ=[some (.ref a),some (.ref p),v]∧Same H H2∧H2 p=some (.lst (nats (sched i l)))) ⟨none,rfl,Zk hp,Zc⟩ ?_ ?_⟩⟩
  ·rintro i σ H2 hi ⟨v,rfl,s2,h2⟩
   have ha2:=s2 _ _ ha
   have hlt:∀j,l.getD j 0<256:=fun j=>Yo hb (by decide)
   refine ⟨_,rfl,Yg h2,_,rfl,_,rfl,rix (4*i) ha2 (by omega) (by omega) ⟨_,_,rfl,rfl,⟨by decide,by decide,?_⟩,?_⟩⟩
   ·have:=hlt (4*i);omega
   refine ⟨_,rfl,_,rfl,_,_,rfl,rfl,rix (4*i+1) ha2 (by omega) (by omega) ⟨_,_,rfl,rfl,⟨by decide,by decide,?_⟩,_,_,rfl,rfl,?_⟩⟩
   ·have:=hlt (4*i+1);omega
   refine ⟨_,rfl,_,rfl,_,_,rfl,rfl,rix (4*i+2) ha2 (by omega) (by omega) ⟨_,_,rfl,rfl,⟨by decide,by decide,?_⟩,_,_,rfl,rfl,?_⟩⟩
   ·have:=hlt (4*i+2);omega
   refine ⟨_,rfl,_,rfl,_,_,rfl,rfl,rix (4*i+3) ha2 (by omega) (by omega) ⟨_,_,rfl,rfl,?_⟩⟩
   refine ⟨_,_,_,rfl,rfl,h2,?_,?_⟩
   ·rw[List.length_map,sched_length];exact szlt (by omega)
   refine ⟨_,rfl,fun b o e=>?_,?_⟩
   ·rw[Zn (Zg e hp)];exact s2 b o e
   ·rw[Zc,sched_low l hi,Z2]
    congr 3
    show [V.int _]=[nV _]
    have e24:((24:Int)).toNat=24:=rfl
    have e16:((16:Int)).toNat=16:=rfl
    have e8:((8:Int)).toNat=8:=rfl
    rw[e24,e16,e8,sl,sl,sl,bo,bo,bo,word_or (hlt _) (hlt _) (hlt _)]
    congr 4
    apply List.ext_getElem?
    intro j
    by_cases hj:j<4
    ·rw[List.getElem?_take_of_lt hj,List.getElem?_drop,Jd (show 4*i+j<l.length by omega)]
     match j,hj with
     | 0,_=>rfl
     | 1,_=>rfl
     | 2,_=>rfl
     | 3,_=>rfl
    ·rw[List.getElem?_eq_none (by simp;omega),List.getElem?_eq_none (by simp;omega)]
  ·rintro σ H2 ⟨v,rfl,s2,h2⟩
   refine ⟨16,80,rfl,⟨by decide,by decide,by decide,by decide⟩,for_range (n:=64) (fun i σ H3=>∃v,σ=[some (.ref a),some (.ref p),v]∧Same H H3∧H3 p=some (.lst (nats (sched (16+i) l)))) ⟨v,rfl,s2,h2⟩ ?_ ?_⟩
   ·rintro i σ H3 hi ⟨v',rfl,s3,h3⟩
    obtain ⟨w3,w8,w14,w16,g3,g8,g14,g16,es⟩:=sched_high (n:=16+i) l (by omega)
    have hs:=sched_lt (16+i) hb
    have hl3:=sched_length (16+i) l
    have gd:∀{j w},(sched (16+i) l)[j]?=some w→(sched (16+i) l).getD j 0=w∧w<2^32∧j<(sched (16+i) l).length:=fun {j w} g=>⟨by rw[List.getD_eq_getElem?_getD,g];rfl,hs w (List.mem_of_getElem? g),(List.getElem?_eq_some_iff.mp g).1⟩
    obtain ⟨d3,l3,b3⟩:=gd g3
    obtain ⟨d8,l8,b8⟩:=gd g8
    obtain ⟨d14,l14,b14⟩:=gd g14
    obtain ⟨d16,l16,b16⟩:=gd g16
    refine ⟨_,rfl,Yg h3,_,rfl,_,rfl,_,_,rfl,rfl,rix (16+i-3) h3 (by omega) b3 ⟨_,rfl,_,rfl,_,_,rfl,rfl,rix (16+i-8) h3 (by omega) b8 ⟨_,_,rfl,rfl,?_⟩⟩⟩
    refine ⟨_,rfl,_,rfl,_,_,rfl,rfl,rix (16+i-14) h3 (by omega) b14 ⟨_,_,rfl,rfl,?_⟩⟩
    refine ⟨_,rfl,_,rfl,_,_,rfl,rfl,rix (16+i-16) h3 (by omega) b16 ⟨_,_,rfl,rfl,?_⟩⟩
    refine ⟨_,_,w3 ^^^ w8 ^^^ w14 ^^^ w16,1,rfl,?_,rfl,xor_lt32 (xor_lt32 (xor_lt32 l3 l8) l14) l16,by decide,?_⟩
    ·rw[d3,d8,d14,d16,bx,bx,bx]
    refine ⟨_,_,_,rfl,rfl,h3,?_,?_⟩
    ·rw[List.length_map,hl3];exact szlt (by omega)
    refine ⟨_,rfl,fun b o e=>?_,?_⟩
    ·rw[Zn (Zg e hp)];exact s3 b o e
    ·rw[Zc,show 16+(i+1)=16+i+1 by omega,es,Z2]
     rfl
   ·rintro σ H3 ⟨v',rfl,s3,h3⟩
    exact ⟨_,rfl,q p _ s3 hp h3⟩
def five (s:Md33.Five):List Nat:=[s.a,s.b,s.c,s.d,s.e]
def after80 (s:Md33.Five) (l:List Nat) (i:Nat):Md33.Five:=(l.zipIdx.take i).foldl Md33.turn s
def stirS (s:Md33.Five) (l:List Nat):Md33.Five:=⟨(s.a+(after80 s l l.length).a)%2^32,(s.b+(after80 s l l.length).b)%2^32,(s.c+(after80 s l l.length).c)%2^32,(s.d+(after80 s l l.length).d)%2^32,(s.e+(after80 s l l.length).e)%2^32⟩
theorem after80_succ {s:Md33.Five} {l:List Nat} {i:Nat} (h:i<l.length):after80 s l (i+1)=Md33.turn (after80 s l i) (l.getD i 0,i):=by
 unfold after80
 rw[List.take_add_one,List.getElem?_zipIdx,Jd h,List.foldl_append]
 simp
theorem after80_small {s:Md33.Five} (h:Small s) (l:List Nat) (i:Nat):Small (after80 s l i):=h.fold _
theorem piece_stir (s:Md33.Five) (b:List Nat):Md33.piece s b=stirS s (sched 80 b):=by
 have e:after80 s (sched 80 b) (sched 80 b).length=(Md33.words 80 b).reverse.zipIdx.foldl Md33.turn s:=by
  unfold after80 sched
  rw[List.take_of_length_le (by simp)]
 unfold stirS
 rw[e]
 rfl
def sp_stir :Sp:=fun vs H Q _=>∃(a b:Addr) (s:Md33.Five) (l:List Nat),vs=[.ref a,.ref b]∧H a=some (.lst (nats (five s)))∧H b=some (.lst (nats l))∧Small s∧∀r H',Same H H'→H r=none→H' r=some (.lst (nats (five (stirS s l))))→Q (.ref r) H'
theorem ok_stir (T:Txt K mg t):OkF P w K mg base 2 "stir" ["words","schedule"] (sp_stir ):=by
 refine okF T.d_stir Ys (fun vs H Q E h=>?_) (fun f cdv A outer s H vs Q E hr h=>?_)
 ·obtain ⟨a,b,s,l,rfl,ha,hb,hs,q⟩:=h
  rfl
 ·obtain ⟨a,b,s,l,rfl,ha,hb,hs,q⟩:=h
  refine ⟨_,(Zb (Zo (i:=2) Ys.nd rfl (Or.inl rfl) (Zx (Zl (K:=K) rfl) (pv 0) Zf (fun _ _=>rfl)))
   (Zb (Zo (i:=3) Ys.nd rfl (Or.inl rfl) (Zx (Zl (K:=K) rfl) (pv 0) Zf (fun _ _=>rfl)))
   (Zb (Zo (i:=4) Ys.nd rfl (Or.inl rfl) (Zx (Zl (K:=K) rfl) (pv 0) Zf (fun _ _=>rfl)))
   (Zb (Zo (i:=5) Ys.nd rfl (Or.inl rfl) (Zx (Zl (K:=K) rfl) (pv 0) Zf (fun _ _=>rfl)))
   (Zb (Zo (i:=6) Ys.nd rfl (Or.inl rfl) (Zx (Zl (K:=K) rfl) (pv 0) Zf (fun _ _=>rfl)))
   (Zb (Y2 PassesOwn.never rfl (pi_enum rfl T.n_enumerate (Za (pv 1) Zd)) (pg_tupK (K:=K) (n:=2) rfl rfl (Qg (Z3 (i:=7) Ys.nd rfl (Or.inl rfl)) (Qg (Z3 (i:=8) Ys.nd rfl (Or.inl rfl)) pgs_nil))) (Zb (Zo (i:=9) Ys.nd rfl (Or.inl rfl) (Zm op_and (Zm Z5 (Zm Z5 (Zm Z5 (pf (ok_turned_left T) hr (Za (pv 2) (Za Zf Zd))) (pf (ok_blended T) hr (Za (pv 7) (Za (pv 3) (Za (pv 4) (Za (pv 5) Zd)))))) (pv 6)) (pv 8)) (pgi rfl T.c_WORD_MASK)))
   (Zb (Zo (i:=6) Ys.nd rfl (Or.inl rfl) (pv 5))
   (Zb (Zo (i:=5) Ys.nd rfl (Or.inl rfl) (pv 4))
   (Zb (Zo (i:=4) Ys.nd rfl (Or.inl rfl) (pf (ok_turned_left T) hr (Za (pv 3) (Za Zf Zd))))
   (Zb (Zo (i:=3) Ys.nd rfl (Or.inl rfl) (pv 2))
   (Ze (Zo (i:=2) Ys.nd rfl (Or.inl rfl) (pv 9)))))))))
   (Zb (Zo (i:=10) Ys.nd rfl (Or.inl rfl) (Zz (Za (pv 2) (Za (pv 3) (Za (pv 4) (Za (pv 5) (Za (pv 6) Zd)))))))
   (Ze (Zj (pe_lc rfl Ys.nd (pi_zip rfl T.n_zip (Za (pv 0) (Za (pv 10) Zd))) (Xt (N:=["words","schedule","a","b","c","d","e","step","word","fresh","stirred","old","new"]) (sc:=Qs s_stir) (own:=[("old",11),("new",12)]) (by decide +kernel)) (fun _ _ _ _ _=>(pg_tupK (K:=K) (n:=2) rfl rfl (Qg (Z3 (i:=11) Ys.nd rfl (Or.inl rfl)) (Qg (Z3 (i:=12) Ys.nd rfl (Or.inl rfl)) pgs_nil)))) (fun _ _ _ _ _=>pts_nil) (fun _ _ _ _ _=>(Zm op_and (Zm Z5 (pv 11) (pv 12)) (pgi rfl T.c_WORD_MASK))))))))))))),?_⟩
  refine ⟨_,rfl,rix 0 ha rfl (show 0<5 by decide) ⟨_,rfl,rix 1 ha rfl (show 1<5 by decide) ⟨_,rfl,rix 2 ha rfl (show 2<5 by decide) ⟨_,rfl,rix 3 ha rfl (show 3<5 by decide) ⟨_,rfl,rix 4 ha rfl (show 4<5 by decide) ?_⟩⟩⟩⟩⟩
  refine ⟨_,rfl,b,_,rfl,SqL.of hb,for_enum (xs:=nats l) (fun i σ H2=>∃v7 v8 v9,σ=[some (.ref a),some (.ref b),some (nV (after80 s l i).a),some (nV (after80 s l i).b),some (nV (after80 s l i).c),some (nV (after80 s l i).d),some (nV (after80 s l i).e),v7,v8,v9,none,none,none]∧Same H H2)
   ⟨none,none,none,rfl,Same.refl _⟩ (fun i σ H2 _ ⟨_,_,_,_,s2⟩=>SqL.of (s2 _ _ hb)) ?_ ?_⟩
  ·rintro i x σ H2 T hx ⟨v7,v8,v9,rfl,s2⟩ hT
   obtain ⟨hi,rfl⟩:=Xx hx
   have hu:=after80_small hs l i
   refine ⟨T,_,rfl,SqT.of Zc,rfl,_,_,rfl,_,_,rfl,rfl,?_⟩
   refine ⟨_,rfl,_,_,(after80 s l i).a,5,rfl,rfl,rfl,hu.a,by decide,?_⟩
   refine ⟨_,rfl,_,rfl,_,rfl,_,rfl,_,i,after80 s l i,rfl,rfl,hu.b,?_⟩
   refine ⟨_,_,rfl,rfl,_,rfl,_,_,rfl,rfl,_,rfl,_,_,rfl,rfl,_,_,rfl,rfl,?_⟩
   refine ⟨_,rfl,_,rfl,_,rfl,_,_,(after80 s l i).b,30,rfl,rfl,rfl,hu.b,by decide,_,rfl,_,rfl,?_⟩
   refine ⟨some (V.int (i:Nat)),some (nV (l.getD i 0)),some (nV (Md33.turn (after80 s l i) (l.getD i 0,i)).a),?_,fun b o e=>?_⟩
   rotate_left
   ·rw[Zn (Zg (s2 _ _ e) hT)];exact s2 b o e
   ·have e2:Builtin.bitAnd ((Md33.rotate 5 (after80 s l i).a:Nat)+((Md33.mixed i (after80 s l i)+Md33.constant i:Nat):Int)+((after80 s l i).e:Int)+((l.getD i 0:Nat):Int)) 4294967295=(((Md33.turn (after80 s l i) (l.getD i 0,i)).a:Nat):Int):=by
     rw[← Int.natCast_add,← Int.natCast_add,← Int.natCast_add,show (4294967295:Int)=((4294967295:Nat):Int) from rfl,ba,and_mask32,← rotl_eq hu.a,turn_a hu.a]
    rw[after80_succ hi]
    show ([some (V.ref a),some (V.ref b),some (V.int _),some (nV (after80 s l i).a),some (nV (Md33.rotate 30 (after80 s l i).b)),some (nV (after80 s l i).c),some (nV (after80 s l i).d),some (V.int (i:Nat)),some (nV (l.getD i 0)),some (V.int _),none,none,none]:St)=_
    rw[e2]
    rfl
  ·rintro σ H2 ⟨v7,v8,v9,rfl,s2⟩
   refine ⟨_,rfl,_,rfl,_,rfl,_,rfl,_,rfl,(show 5≤sizeLine by decide),fun p hp=>?_⟩
   have s3:=Zk (o:=.lst (nats (five (after80 s l (nats l).length)))) hp
   refine ⟨_,rfl,_,rfl,a,p,nats (five s),nats (five (after80 s l (nats l).length)),rfl,SqL.of (s3 _ _ (s2 _ _ ha)),SqL.of Zc,fun D hD=>lc_zip (fun i=>nV (((five s).getD i 0+(five (after80 s l (nats l).length)).getD i 0)%2^32)) (SqL.of (s3 _ _ (s2 _ _ ha))) (SqL.of Zc) (by show 5≤sizeLine;decide) hD (fun i H' x y hx hy s1 N hN=>?_) fun H' s1 h1=>?_⟩
   ·obtain ⟨_,rfl⟩:=Xx (l:=five s) hx
    obtain ⟨_,rfl⟩:=Xx (l:=five (after80 s l (nats l).length)) hy
    refine ⟨_,rfl,_,rfl,_,_,rfl,rfl,_,_,rfl,rfl,to (hN _ (Same.refl _)) ?_⟩
    rw[← Int.natCast_add,show (4294967295:Int)=((4294967295:Nat):Int) from rfl,ba,and_mask32]
   ·refine q D H' ((s2.trans s3).trans s1) ((s2.trans s3).free hD) ?_
    rw[h1]
    unfold stirS
    rw[List.length_map]
    rfl
theorem five_len (s:Md33.Five):(five s).length=5:=rfl
theorem pieces_small (n:Nat) (b:List Nat):Small (Md33.pieces n Md33.START b):=by
 cases n with
 | zero=>exact small_START
 | succ n=>rw[pieces_succ];exact small_piece _ _
def sp_sum_of :Sp:=fun vs H Q _=>∃(a:Addr) (l:List Nat),vs=[.ref a]∧H a=some (.lst (nats l))∧l.length≤1100000∧(∀x∈l,x<256)∧∀r H',Same H H'→H r=none→H' r=some (.lst (nats (Md33.sum l)))→Q (.ref r) H'
theorem ok_sum_of (T:Txt K mg t):OkF P w K mg base 3 "sum_of" ["data"] (sp_sum_of ):=by
 refine okF T.d_sum_of J1 (fun vs H Q E h=>?_) (fun f cdv A outer s H vs Q E hr h=>?_)
 ·obtain ⟨a,l,rfl,ha,hl,hb,q⟩:=h
  rfl
 ·obtain ⟨a,l,rfl,ha,hl,hb,q⟩:=h
  refine ⟨_,(Zb (Zo (i:=1) J1.nd rfl (Or.inl rfl) (Zm Yl (pv 0) (pf (ok_tail_of T) hr (Za (Zs (Zq (K:=K) rfl) rfl T.n_len PySem.boot_len (Za (pv 0) Zd)) Zd))))
   (Zb (Zo (i:=2) J1.nd rfl (Or.inl rfl) (pe_callTy (call_listK (K:=K) rfl) rfl T.n_list boot_list (Za (pgt rfl T.c_FIRST_WORDS) Zd)))
   (Zb (Y2 PassesOwn.never rfl (Xw rfl T.n_range (Za Zf (Za (Zs (Zq (K:=K) rfl) rfl T.n_len PySem.boot_len (Za (pv 1) Zd)) (Za (pgi rfl T.c_BLOCK_BYTES_digest) Zd)))) (Z3 (i:=3) J1.nd rfl (Or.inl rfl)) (Ze (Zo (i:=2) J1.nd rfl (Or.inl rfl) (pf (ok_stir T) hr (Za (pv 2) (Za (pf (ok_spread T) hr (Za (Z1 (Z0 (K:=K) rfl) (pv 1) (Zv (pv 3)) (Zv (Zm Z5 (pv 3) (pgi rfl T.c_BLOCK_BYTES_digest)))) Zd)) Zd))))))
   (Zb (Zo (i:=4) J1.nd rfl (Or.inl rfl) (Zz Zd))
   (Zb (Y2 PassesOwn.never rfl (J8 (pv 2)) (Z3 (i:=5) J1.nd rfl (Or.inl rfl)) (Ze (Z6 (Yu (K:=K) rfl PySem.F.plainAttrs_list PySem.F.slot_list_extend PySem.F.type_list_extend J2 (pv 4) (Za (pf (ok_high_first T) hr (Za (pv 5) (Za Zf Zd))) Zd)))))
   (Ze (Zj (pv 4)))))))),?_⟩
  refine ⟨_,rfl,_,rfl,a,_,rfl,.inl (SqL.of ha),_,l.length,rfl,by rw[List.length_map],hl,fun r1 H1 s1 n1 e1=>?_⟩
  obtain ⟨n,hn⟩:=padded_length l
  have hpl:(Md33.padded l).length≤l.length+72:=by
   rw[padded_tail,List.length_append]
   unfold tailOf
   simp only[List.length_append,List.length_cons,List.length_replicate,List.length_reverse,Zy]
   omega
  refine rcat (s1 _ _ ha) e1 ?_ fun pp hp=>?_
  ·have:(nats l).length+(nats (tailOf l.length)).length=(Md33.padded l).length:=by rw[padded_tail,List.length_append,List.length_map,List.length_map]
   rw[this,Qt];omega
  rw[← Z2,← padded_tail]
  have s2:=Zk (o:=.lst (nats (Md33.padded l))) hp
  refine ⟨t.a_FIRST_WORDS,_,rfl,.inr (T.q_FIRST_WORDS _),fun pw hw=>?_⟩
  have s3:=Zk (o:=.lst (nats (five Md33.START))) hw
  have S3:=(s1.trans s2).trans s3
  refine ⟨_,rfl,pp,_,rfl,.inl (SqL.of (s3 _ _ Zc)),_,_,_,n,rfl,?_,Jj (fun i σ H2=>∃pw v,σ=[some (.ref a),some (.ref pp),some (.ref pw),v,none,none]∧Same H H2∧H2 pp=some (.lst (nats (Md33.padded l)))∧H2 pw=some (.lst (nats (five (Md33.pieces i Md33.START (Md33.padded l))))))
   ⟨pw,none,rfl,S3,s3 _ _ Zc,Zc⟩ ?_ ?_⟩
  ·rw[List.length_map,hn]
   exact rgc (c:=64) (n:=n) (by decide) (by decide) (by omega) rfl
  ·rintro i σ H2 hi ⟨pw,v,rfl,s4,h4,h5⟩
   refine ⟨_,rfl,_,rfl,_,rfl,_,rfl,_,rfl,_,_,rfl,rfl,_,rfl,pp,_,rfl,SqL.of h4,fun pc hc=>?_⟩
   have e1:(0:Int)+(i:Nat)*64=((64*i:Nat):Int):=by omega
   have e2:(0:Int)+(i:Nat)*64+64=((64*i+64:Nat):Int):=by omega
   rw[e2,e1,cut_n (by omega),show 64*i+64-64*i=64 by omega]
   have s5:=Zk (o:=.lst (nats (((Md33.padded l).drop (64*i)).take 64))) hc
   refine ⟨pc,_,rfl,Zc,?_,fun x hx=>padded_lt hb x (List.mem_of_mem_drop (List.mem_of_mem_take hx)),fun r6 H6 s6 n6 e6=>?_⟩
   ·rw[List.length_take,List.length_drop];omega
   refine ⟨pw,r6,_,_,rfl,s6 _ _ (s5 _ _ h5),e6,pieces_small i _,fun r7 H7 s7 n7 e7=>?_⟩
   refine ⟨r7,_,rfl,((s4.trans s5).trans s6).trans s7,s7 _ _ (s6 _ _ (s5 _ _ h4)),?_⟩
   rw[e7,pieces_succ,piece_stir]
  ·rintro σ H2 ⟨pw,v,rfl,s4,h4,h5⟩
   refine ⟨by decide,fun pa hpa=>?_⟩
   have s5:=Zk (o:=.lst []) hpa
   refine ⟨_,rfl,pw,rfl,⟨_,SqL.of (s5 _ _ h5)⟩,for_list (K:=K) (a:=pw) (xs:=nats (five (Md33.pieces n Md33.START (Md33.padded l)))) (fun i σ H3=>∃v5,σ=[some (.ref a),some (.ref pp),some (.ref pw),v,some (.ref pa),v5]∧Same H2 H3∧H3 pa=some (.lst (nats (((five (Md33.pieces n Md33.START (Md33.padded l))).take i).flatMap Md33.high4))))
    ⟨none,rfl,s5,Zc⟩ (fun i σ H3 _ ⟨_,_,s6,_⟩=>SqL.of (s6 _ _ h5)) ?_ ?_⟩
   ·rintro i x σ H3 hx ⟨v5,rfl,s6,h6⟩
    obtain ⟨hi,rfl⟩:=Xx hx
    refine ⟨_,rfl,Yg h6,_,rfl,_,_,_,4,rfl,rfl,rfl,by decide,fun r7 H7 s7 n7 e7=>?_⟩
    refine ⟨_,_,_,_,rfl,rfl,s7 _ _ h6,e7,?_,?_⟩
    ·have hl4:∀m:List Nat,(m.flatMap Md33.high4).length=4*m.length:=by
      intro m
      induction m with
      | nil=>rfl
      | cons x m ih=>rw[List.flatMap_cons,List.length_append,high4_length,ih,List.length_cons];omega
     simp only[List.length_map,hl4,List.length_take,List.length_reverse,Zy,five_len] at hi ⊢
     rw[Qt];omega
    refine ⟨_,rfl,fun b o e=>?_,?_⟩
    ·rw[Zn (Zg e hpa)];exact s7 _ _ (s6 _ _ e)
    ·rw[Zc,List.take_add_one,Jd hi,List.flatMap_append,Z2]
     congr 2
   ·rintro σ H3 ⟨v5,rfl,s6,h6⟩
    refine ⟨_,rfl,q pa _ (s4.trans s6) (s4.free hpa) ?_⟩
    rw[h6,List.length_map,five_len]
    congr 2
    rw[shaped_sum,hn,Nat.mul_div_cancel_left _ (by decide)]
    show nats (Md33.high4 _++(Md33.high4 _++(Md33.high4 _++(Md33.high4 _++(Md33.high4 _++[])))))=_
    rw[List.append_nil]
end
theorem xor_eq (l m:List Nat):Md33.xor l m=(List.range (min l.length m.length)).map fun i=>l.getD i 0 ^^^ m.getD i 0:=by
 apply List.ext_getElem?
 intro i
 unfold Md33.xor
 by_cases h:i<min l.length m.length
 ·rw[List.getElem?_map,List.getElem?_map,List.getElem?_range h,(List.getElem?_zip_eq_some (z:=(l.getD i 0,m.getD i 0))).mpr ⟨Jd (l:=l) (i:=i) (by omega),Jd (l:=m) (i:=i) (by omega)⟩]
  rfl
 ·rw[List.getElem?_eq_none (by simp;omega),List.getElem?_eq_none (by simp;omega)]
structure Rows (H:Hp) (p:Addr) (rows:List (List Nat)):Prop where
 ex:∃rs:List Addr,H p=some (.lst (rs.map V.ref))∧rs.length=rows.length∧∀(i:Nat) (x:Addr),rs[i]?=some x→∃row,rows[i]?=some row∧H x=some (.lst (nats row))
theorem Rows.same {H H':Hp} {p:Addr} {rows:List (List Nat)} (h:Rows H p rows) (s:Same H H'):Rows H' p rows:=by
 obtain ⟨rs,h1,h2,h3⟩:=h.ex
 exact ⟨rs,s _ _ h1,h2,fun i x hx=>let ⟨row,a,b⟩:=h3 i x hx;⟨row,a,s _ _ b⟩⟩
theorem Rows.at {K:PySem.W.Frag} {H:Hp} {p:Addr} {rows:List (List Nat)} (h:Rows H p rows) {j:Nat} {row:List Nat} (hj:rows[j]?=some row) {z:Int} (e:z=(j:Int)) {Q:VK} (q:∀x,H x=some (.lst (nats row))→Q (.ref x) H):rIxL K (.ref p) (.int z) H Q:=by
 obtain ⟨rs,h1,h2,h3⟩:=h.ex
 have hlt:j<rs.length:=by rw[h2];exact (List.getElem?_eq_some_iff.mp hj).1
 obtain ⟨x,hx⟩:∃x,rs[j]?=some x:=⟨rs[j],List.getElem?_eq_getElem hlt⟩
 obtain ⟨row',a,b⟩:=h3 j x hx
 rw[hj] at a
 cases a
 subst e
 exact ⟨p,_,_,V.ref x,rfl,rfl,SqL.of h1,atI_nat (by rw[List.getElem?_map,hx];rfl),q x b⟩
theorem Rows.snoc {H:Hp} {p x:Addr} {rows:List (List Nat)} {row:List Nat} {xs:List V} (h:Rows H p rows) (hp:H p=some (.lst xs)) (hx:H x=some (.lst (nats row))) (hne:x≠p) (hr:∀(i:Nat) (y:Addr),xs[i]?=some (V.ref y)→y≠p):Rows (upd H p (.lst (xs++[V.ref x]))) p (rows++[row]):=by
 obtain ⟨rs,h1,h2,h3⟩:=h.ex
 have e:xs=rs.map V.ref:=by rw[hp] at h1;cases h1;rfl
 subst e
 refine ⟨rs++[x],by rw[Zc,List.map_append];rfl,by simp[h2],fun i y hy=>?_⟩
 by_cases hi:i<rs.length
 ·rw[List.getElem?_append_left hi] at hy
  obtain ⟨row',a,b⟩:=h3 i y hy
  refine ⟨row',by rw[List.getElem?_append_left (by omega)];exact a,?_⟩
  rw[Zn (hr i y (by rw[List.getElem?_map,hy];rfl))]
  exact b
 ·rw[List.getElem?_append_right (by omega)] at hy
  have hi0:i-rs.length=0:=by
   have:=(List.getElem?_eq_some_iff.mp hy).1
   simp at this;omega
  rw[hi0] at hy
  have ey:x=y:=Option.some.inj hy
  subst ey
  refine ⟨row,by rw[List.getElem?_append_right (by omega),← h2,hi0];rfl,?_⟩
  rw[Zn hne]
  exact hx
theorem Zp {H:Hp} {p:Addr} {o:HO} (h:H p=none):Same H (upd H p o)∧upd H p o p=some o:=⟨Zk h,Zc⟩
section
variable {P:Program} {w:World} {K:PySem.W.Frag} {mg:Str→Option Value} {base:Heap} {t:Adr}
def sp_doubled :Sp:=fun vs H Q _=>∃(z:Int) (x:Nat),vs=[.int z]∧z=(x:Int)∧x<256∧Q (nV (Md33.doubled x)) H
theorem Xb (T:Txt K mg t):OkF P w K mg base 1 "doubled" ["byte"] (sp_doubled ):=by
 refine okF T.d_doubled sc_doubled (fun vs H Q E h=>?_) (fun f cdv A outer s H vs Q E hr h=>?_)
 ·obtain ⟨_,x,rfl,rfl,hx,q⟩:=h
  rfl
 ·obtain ⟨_,x,rfl,rfl,hx,q⟩:=h
  refine ⟨_,(Zb (Zo (i:=1) sc_doubled.nd rfl (Or.inl rfl) (Zm op_shl (pv 0) Zf))
   (Ze (Zj (pe_ifExp (Zu op_gt (pv 1) Zf (Qv _)) (Zm Yc (pv 1) Zf) (pv 1))))),?_⟩
  refine ⟨_,rfl,_,_,rfl,rfl,⟨by decide,by decide,by omega⟩,_,rfl,_,_,rfl,rfl,_,rfl,ite2 (fun h=>?_) fun h=>?_⟩
  ·refine ⟨_,rfl,_,_,rfl,rfl,to q ?_⟩
   have h1:(255:Int)<(x:Int)*2^(1:Int).toNat:=of_decide_eq_true h
   have e1:(1:Int).toNat=1:=rfl
   rw[e1,sl] at h1 ⊢
   rw[show (283:Int)=((283:Nat):Int) from rfl,bx,← Xs hx]
   unfold dbl
   rw[if_pos (by omega)]
  ·refine ⟨_,rfl,to q ?_⟩
   have h1:¬ (255:Int)<(x:Int)*2^(1:Int).toNat:=fun z=>h (decide_eq_true z)
   have e1:(1:Int).toNat=1:=rfl
   rw[e1,sl] at h1 ⊢
   rw[← Xs hx]
   unfold dbl
   rw[if_neg (by omega)]
def sp_xor :Sp:=fun vs H Q _=>∃(a b:Addr) (l m:List Nat),vs=[.ref a,.ref b]∧H a=some (.lst (nats l))∧H b=some (.lst (nats m))∧l.length≤1000∧∀r H',Same H H'→H r=none→H' r=some (.lst (nats (Md33.xor l m)))→Q (.ref r) H'
theorem ok_xor (T:Txt K mg t):OkF P w K mg base 1 "xor" ["left","right"] (sp_xor ):=by
 refine okF T.d_xor sc_xor (fun vs H Q E h=>?_) (fun f cdv A outer s H vs Q E hr h=>?_)
 ·obtain ⟨a,b,l,m,rfl,ha,hb,hl,q⟩:=h
  rfl
 ·obtain ⟨a,b,l,m,rfl,ha,hb,hl,q⟩:=h
  refine ⟨_,(Ze (Zj (pe_lc rfl sc_xor.nd (pi_zip rfl T.n_zip (Za (pv 0) (Za (pv 1) Zd))) (Xt (N:=["left","right","a","b"]) (sc:=Qs s_xor) (own:=[("a",2),("b",3)]) (by decide +kernel)) (fun _ _ _ _ _=>(pg_tupK (K:=K) (n:=2) rfl rfl (Qg (Z3 (i:=2) sc_xor.nd rfl (Or.inl rfl)) (Qg (Z3 (i:=3) sc_xor.nd rfl (Or.inl rfl)) pgs_nil)))) (fun _ _ _ _ _=>pts_nil) (fun _ _ _ _ _=>(Zm Yc (pv 2) (pv 3)))))),?_⟩
  refine ⟨_,rfl,_,rfl,a,b,_,_,rfl,SqL.of ha,SqL.of hb,fun D hD=>lc_zip (fun i=>nV (l.getD i 0 ^^^ m.getD i 0)) (SqL.of ha) (SqL.of hb) ?_ hD (fun i H' x y hx hy s1 N hN=>?_) fun H' s1 h1=>?_⟩
  ·rw[List.length_map,Qt];omega
  ·obtain ⟨_,rfl⟩:=Xx hx
   obtain ⟨_,rfl⟩:=Xx hy
   refine ⟨_,rfl,_,rfl,_,_,rfl,rfl,to (hN _ (Same.refl _)) ?_⟩
   rw[bx]
  ·refine q D H' s1 hD ?_
   rw[h1,xor_eq,List.length_map,List.length_map,nats,List.map_map]
   rfl
def sp_swapped_and_shifted :Sp:=fun vs H Q _=>∃(a:Addr) (l:List Nat),vs=[.ref a]∧H a=some (.lst (nats l))∧B16 l∧∀r H',Same H H'→H r=none→H' r=some (.lst (nats (Md33.shifted (l.map subN))))→Q (.ref r) H'
theorem Jr (T:Txt K mg t):OkF P w K mg base 1 "swapped_and_shifted" ["state"] (sp_swapped_and_shifted ):=by
 refine okF T.d_swapped_and_shifted Y8 (fun vs H Q E h=>?_) (fun f cdv A outer s H vs Q E hr h=>?_)
 ·obtain ⟨a,l,rfl,ha,hb,q⟩:=h
  rfl
 ·obtain ⟨a,l,rfl,ha,hb,q⟩:=h
  refine ⟨_,(Ze (Zj (pe_lc rfl Y8.nd (pi_tup (pgt rfl T.c_SHIFTED)) (Xt (N:=["state","place"]) (sc:=Qs Xi) (own:=[("place",1)]) (by decide +kernel)) (fun _ _ _ _ _=>(Z3 (i:=1) Y8.nd rfl (Or.inl rfl))) (fun _ _ _ _ _=>pts_nil) (fun _ _ _ _ _=>(Zx (ix_tupK (K:=K) rfl) (pgt rfl T.c_SWAPPED) (Zx (Zl (K:=K) rfl) (pv 0) (pv 1) (fun _ _=>rfl)) (fun _ _=>rfl)))))),?_⟩
  refine ⟨t.a_SHIFTED,rfl,⟨_,T.q_SHIFTED _⟩,fun D hD=>lc_tpl (fun i=>nV (subN (l.getD ([0,5,10,15,4,9,14,3,8,13,2,7,12,1,6,11].getD i 0) 0))) T.q_SHIFTED (by decide) hD (fun i H' x hx s1 N hN=>?_) fun H' s1 h1=>?_⟩
  ·obtain ⟨hi,rfl⟩:=Xx (l:=[0,5,10,15,4,9,14,3,8,13,2,7,12,1,6,11]) hx
   have hlt:=hb.lt
   have h16:[0,5,10,15,4,9,14,3,8,13,2,7,12,1,6,11].getD i 0<l.length:=by
    rw[hb.len]
    exact Yo (m:=16) (by decide) (by decide)
   refine ⟨_,rfl,_,rfl,rix _ (s1 _ _ ha) rfl h16 (rixT _ (T.q_SWAPPED _) rfl (Yo hlt (by decide)) ?_)⟩
   have:=hN H' (Same.refl _)
   rw[subN_tab] at this
   exact this
  ·refine q D H' s1 hD ?_
   rw[h1,shifted_map _ hb.len]
   rfl
def sp_mixed :Sp:=fun vs H Q _=>∃(a:Addr) (l:List Nat),vs=[.ref a]∧H a=some (.lst (nats l))∧B16 l∧∀r H',Same H H'→H r=none→H' r=some (.lst (nats (Md33.mix [2,3,1,1] l)))→Q (.ref r) H'
theorem ok_mixed (T:Txt K mg t):OkF P w K mg base 2 "mixed" ["state"] (sp_mixed ):=by
 refine okF T.d_mixed J9 (fun vs H Q E h=>?_) (fun f cdv A outer s H vs Q E hr h=>?_)
 ·obtain ⟨a,l,rfl,ha,hb,q⟩:=h
  rfl
 ·obtain ⟨a,l,rfl,ha,hb,q⟩:=h
  refine ⟨_,(Zb (Zo (i:=1) J9.nd rfl (Or.inl rfl) (Zz Zd))
   (Zb (Y2 PassesOwn.never rfl (Xw rfl T.n_range (Za Zf (Za (pgi rfl T.c_BLOCK_BYTES_cipher) (Za Zf Zd)))) (Z3 (i:=2) J9.nd rfl (Or.inl rfl)) (Zb (Zo (i:=3) J9.nd rfl (Or.inl rfl) (Zx (Zl (K:=K) rfl) (pv 0) (pv 2) (fun _ _=>rfl)))
   (Zb (Zo (i:=4) J9.nd rfl (Or.inl rfl) (Zx (Zl (K:=K) rfl) (pv 0) (Zm Z5 (pv 2) Zf) (fun _ _=>rfl)))
   (Zb (Zo (i:=5) J9.nd rfl (Or.inl rfl) (Zx (Zl (K:=K) rfl) (pv 0) (Zm Z5 (pv 2) Zf) (fun _ _=>rfl)))
   (Zb (Zo (i:=6) J9.nd rfl (Or.inl rfl) (Zx (Zl (K:=K) rfl) (pv 0) (Zm Z5 (pv 2) Zf) (fun _ _=>rfl)))
   (Zb (Zo (i:=7) J9.nd rfl (Or.inl rfl) (Zm Yc (Zm Yc (Zm Yc (pv 3) (pv 4)) (pv 5)) (pv 6)))
   (Zb (Z6 (Yu (K:=K) rfl PySem.F.plainAttrs_list PySem.F.slot_list_append PySem.F.type_list_append Yk (pv 1) (Za (Zm Yc (Zm Yc (pv 3) (pv 7)) (pf (Xb T) hr (Za (Zm Yc (pv 3) (pv 4)) Zd))) Zd)))
   (Zb (Z6 (Yu (K:=K) rfl PySem.F.plainAttrs_list PySem.F.slot_list_append PySem.F.type_list_append Yk (pv 1) (Za (Zm Yc (Zm Yc (pv 4) (pv 7)) (pf (Xb T) hr (Za (Zm Yc (pv 4) (pv 5)) Zd))) Zd)))
   (Zb (Z6 (Yu (K:=K) rfl PySem.F.plainAttrs_list PySem.F.slot_list_append PySem.F.type_list_append Yk (pv 1) (Za (Zm Yc (Zm Yc (pv 5) (pv 7)) (pf (Xb T) hr (Za (Zm Yc (pv 5) (pv 6)) Zd))) Zd)))
   (Ze (Z6 (Yu (K:=K) rfl PySem.F.plainAttrs_list PySem.F.slot_list_append PySem.F.type_list_append Yk (pv 1) (Za (Zm Yc (Zm Yc (pv 6) (pv 7)) (pf (Xb T) hr (Za (Zm Yc (pv 6) (pv 3)) Zd))) Zd)))))))))))))
   (Ze (Zj (pv 1))))),?_⟩
  refine ⟨by decide,fun p hp=>⟨0,16,4,4,rfl,⟨by decide,by decide,by decide,by decide⟩,Jj (fun i σ H2=>∃v2 v3 v4 v5 v6 v7,σ=[some (.ref a),some (.ref p),v2,v3,v4,v5,v6,v7]∧Same H H2∧H2 p=some (.lst (nats ((Md33.mix [2,3,1,1] l).take (4*i)))))
   ⟨none,none,none,none,none,none,rfl,Zk hp,Zc⟩ ?_ ?_⟩⟩
  ·rintro i σ H2 hi ⟨v2,v3,v4,v5,v6,v7,rfl,s2,h2⟩
   have ha2:=s2 _ _ ha
   have hlen:=hb.len
   have hlt:∀j,l.getD j 0<256:=fun j=>Yo hb.lt (by decide)
   have hml:(nats ((Md33.mix [2,3,1,1] l).take (4*i))).length≤16:=by rw[List.length_map,List.length_take,mix_length];omega
   refine ⟨_,rfl,_,rfl,rix (4*i) ha2 (by omega) (by omega) ⟨_,rfl,_,rfl,_,_,rfl,rfl,rix (4*i+1) ha2 (by omega) (by omega) ⟨_,rfl,_,rfl,_,_,rfl,rfl,rix (4*i+2) ha2 (by omega) (by omega) ⟨_,rfl,_,rfl,_,_,rfl,rfl,rix (4*i+3) ha2 (by omega) (by omega) ?_⟩⟩⟩⟩
   refine ⟨_,rfl,_,rfl,_,_,rfl,rfl,_,rfl,_,_,rfl,rfl,_,rfl,_,_,rfl,rfl,?_⟩
   refine ⟨_,rfl,Yg h2,_,rfl,_,rfl,_,_,rfl,rfl,_,rfl,_,rfl,_,_,rfl,rfl,_,_,rfl,bx _ _,Zw (hlt _) (hlt _),_,_,rfl,rfl,_,_,_,rfl,rfl,h2,?_,?_⟩
   ·rw[Qt];omega
   refine ⟨_,rfl,Yg Zc,_,rfl,_,rfl,_,_,rfl,rfl,_,rfl,_,rfl,_,_,rfl,rfl,_,_,rfl,bx _ _,Zw (hlt _) (hlt _),_,_,rfl,rfl,_,_,_,rfl,rfl,Zc,?_,?_⟩
   ·rw[List.length_append,Qt,List.length_singleton];omega
   refine ⟨_,rfl,Yg Zc,_,rfl,_,rfl,_,_,rfl,rfl,_,rfl,_,rfl,_,_,rfl,rfl,_,_,rfl,bx _ _,Zw (hlt _) (hlt _),_,_,rfl,rfl,_,_,_,rfl,rfl,Zc,?_,?_⟩
   ·rw[List.length_append,List.length_append,Qt,List.length_singleton,List.length_singleton];omega
   refine ⟨_,rfl,Yg Zc,_,rfl,_,rfl,_,_,rfl,rfl,_,rfl,_,rfl,_,_,rfl,rfl,_,_,rfl,bx _ _,Zw (hlt _) (hlt _),_,_,rfl,rfl,_,_,_,rfl,rfl,Zc,?_,?_⟩
   ·rw[List.length_append,List.length_append,List.length_append,Qt,List.length_singleton,List.length_singleton,List.length_singleton];omega
   refine ⟨_,_,_,_,_,_,rfl,fun b o e=>?_,?_⟩
   ·have hbp:=Zg e hp
    rw[Zn hbp,Zn hbp,Zn hbp,Zn hbp]
    exact s2 b o e
   ·rw[Zc,mix_col hb.lt hi,Z2]
    simp only[bx,List.append_assoc,List.cons_append,List.nil_append]
    unfold mixCol
    rw[← Xs (Zw (hlt _) (hlt _)),← Xs (Zw (hlt _) (hlt _)),← Xs (Zw (hlt _) (hlt _)),← Xs (Zw (hlt _) (hlt _))]
    rfl
  ·rintro σ H2 ⟨v2,v3,v4,v5,v6,v7,rfl,s2,h2⟩
   refine ⟨_,rfl,q p _ s2 hp ?_⟩
   rw[h2,List.take_of_length_le (by rw[mix_length];exact Nat.le_refl _)]
theorem set0 {m:List Nat} (hm:m.length=4) (f:Nat):(nats m).set 0 (V.int (Builtin.bitXor ((m.getD 0 0:Nat):Int) (f:Int)))=nats (Md33.xor m [f,0,0,0]):=by
 match m,hm with
 | [a,b,c,d],_=>
  rw[bx]
  show [nV (a ^^^ f),nV b,nV c,nV d]=[nV (a ^^^ f),nV (b ^^^ 0),nV (c ^^^ 0),nV (d ^^^ 0)]
  rw[Nat.xor_zero,Nat.xor_zero,Nat.xor_zero]
theorem Rows.list {H:Hp} {p:Addr} {rows:List (List Nat)} (h:Rows H p rows):∃xs,H p=some (.lst xs)∧xs.length=rows.length:=by
 obtain ⟨rs,h1,h2,h3⟩:=h.ex
 exact ⟨_,h1,by rw[List.length_map,h2]⟩
theorem Rows.push {H H':Hp} {p x:Addr} {rows:List (List Nat)} {row:List Nat} {xs:List V} (h:Rows H p rows) (s:Same H H') (hp:H' p=some (.lst xs)) (hn:H x=none) (hx:H' x=some (.lst (nats row))) (hnp:∀y:Addr,V.ref y∈xs→y≠p):Rows (upd H' p (.lst (xs++[V.ref x]))) p (rows++[row]):=by
 refine (h.same s).snoc hp hx (fun e=>?_) fun i y hy=>hnp y (List.mem_of_getElem? hy)
 obtain ⟨ys,h1,_⟩:=h.list
 rw[e,h1] at hn
 cases hn
def Apart (H:Hp) (p:Addr):Prop:=∀xs,H p=some (.lst xs)→∀y:Addr,V.ref y∈xs→y≠p
def sp_spread_key :Sp:=fun vs H Q _=>∃(a:Addr) (k:List Nat),vs=[.ref a]∧H a=some (.lst (nats k))∧B16 k∧∀r H',Same H H'→H r=none→Rows H' r ((List.range 11).map (roundK k))→(∀xs,H' r=some (.lst xs)→∀y:Addr,V.ref y∈xs→H y=none)→Q (.ref r) H'
theorem ok_spread_key (T:Txt K mg t):OkF P w K mg base 2 "spread_key" ["key"] (sp_spread_key ):=by
 refine okF T.d_spread_key Yf (fun vs H Q E h=>?_) (fun f cdv A outer s H vs Q E hr h=>?_)
 ·obtain ⟨a,k,rfl,ha,hk,q⟩:=h
  rfl
 ·obtain ⟨a,k,rfl,ha,hk,q⟩:=h
  refine ⟨_,(Zb (Zo (i:=1) Yf.nd rfl (Or.inr rfl) (Zz (Za (Z1 (Z0 (K:=K) rfl) (pv 0) (Zv Zf) (Zv Zf)) (Za (Z1 (Z0 (K:=K) rfl) (pv 0) (Zv Zf) (Zv Zf)) (Za (Z1 (Z0 (K:=K) rfl) (pv 0) (Zv Zf) (Zv Zf)) (Za (Z1 (Z0 (K:=K) rfl) (pv 0) (Zv Zf) (Zv Zf)) Zd))))))
   (Zb (Zo (i:=2) Yf.nd rfl (Or.inl rfl) Zf)
   (Zb (Y2 PassesOwn.never rfl (pi_range2 rfl T.n_range (Za Zf (Za (Zm op_mul Zf (Zm Z5 (pgi rfl T.c_LAST_TURN) Zf)) Zd))) (Z3 (i:=3) Yf.nd rfl (Or.inl rfl)) (Zb (Zo (i:=4) Yf.nd rfl (Or.inl rfl) (Zx (Zl (K:=K) rfl) (pv 1) (Zm Jp (pv 3) Zf) (fun _ _=>rfl)))
   (Zb (Z4 (Zu Jq (Zm op_mod (pv 3) Zf) Zf (Qv _)) (Zb (ps_setLc (i:=4) rfl Yf.nd rfl rfl (sw_true rfl rfl rfl rfl) (J8 (Zm Yl (Z1 (Z0 (K:=K) rfl) (pv 4) (Zv Zf) Yt) (Z1 (Z0 (K:=K) rfl) (pv 4) Yt (Zv Zf)))) (Xt (N:=["key","words","factor","k","word","byte"]) (sc:=Qs s_spread_key) (own:=[("byte",5)]) (by decide +kernel)) (fun _ _ _ _ _=>(Z3 (i:=5) Yf.nd rfl (Or.inl rfl))) (fun _ _ _ _ _=>pts_nil) (fun _ _ _ _ _=>(Zx (ix_tupK (K:=K) rfl) (pgt rfl T.c_SWAPPED) (pv 5) (fun _ _=>rfl))))
   (Zb (ps_asg (Zm Yc (Zx (Zl (K:=K) rfl) (pv 4) Zf (fun _ _=>rfl)) (pv 2)) (pg_sub (pv 4) Zf set_list))
   (Ze (Zo (i:=2) Yf.nd rfl (Or.inl rfl) (pf (Xb T) hr (Za (pv 2) Zd)))))) Zr)
   (Ze (Z6 (Yu (K:=K) rfl PySem.F.plainAttrs_list PySem.F.slot_list_append PySem.F.type_list_append Yk (pv 1) (Za (pf (ok_xor T) hr (Za (Zx (Zl (K:=K) rfl) (pv 1) (Zm Jp (pv 3) Zf) (fun _ _=>rfl)) (Za (pv 4) Zd))) Zd)))))))
   (Ze (Zj (pe_lc rfl Yf.nd (Xw rfl T.n_range (Za Zf (Za (Zs (Zq (K:=K) rfl) rfl T.n_len PySem.boot_len (Za (pv 1) Zd)) (Za Zf Zd)))) (Xt (N:=["key","words","factor","k","word","byte"]) (sc:=Qs s_spread_key) (own:=[("k",3)]) (by decide +kernel)) (fun _ _ _ _ _=>(Z3 (i:=3) Yf.nd rfl (Or.inl rfl))) (fun _ _ _ _ _=>pts_nil) (fun _ _ _ _ _=>(Zm Yl (Zm Yl (Zm Yl (Zx (Zl (K:=K) rfl) (pv 1) (pv 3) (fun _ _=>rfl)) (Zx (Zl (K:=K) rfl) (pv 1) (Zm Z5 (pv 3) Zf) (fun _ _=>rfl))) (Zx (Zl (K:=K) rfl) (pv 1) (Zm Z5 (pv 3) Zf) (fun _ _=>rfl))) (Zx (Zl (K:=K) rfl) (pv 1) (Zm Z5 (pv 3) Zf) (fun _ _=>rfl)))))))))),?_⟩
  have hkl:=hk.len
  have c0:cutV (nats k) (some 0) (some 4)=nats ((k.drop 0).take 4):=cut_n (i:=0) (j:=4) (by omega)
  have c1:cutV (nats k) (some 4) (some 8)=nats ((k.drop 4).take 4):=cut_n (i:=4) (j:=8) (by omega)
  have c2:cutV (nats k) (some 8) (some 12)=nats ((k.drop 8).take 4):=cut_n (i:=8) (j:=12) (by omega)
  have c3:cutV (nats k) (some 12) (some 16)=nats ((k.drop 12).take 4):=cut_n (i:=12) (j:=16) (by omega)
  refine ⟨_,rfl,_,rfl,_,rfl,a,_,rfl,SqL.of ha,fun p0 h0=>?_⟩
  rw[c0]
  obtain ⟨s0,e0⟩:=Zp (o:=.lst (nats ((k.drop 0).take 4))) h0
  generalize upd H p0 (HO.lst (nats ((k.drop 0).take 4)))=G0 at *
  refine ⟨_,rfl,_,rfl,_,rfl,a,_,rfl,SqL.of (s0 _ _ ha),fun p1 h1=>?_⟩
  rw[c1]
  obtain ⟨s1,e1⟩:=Zp (o:=.lst (nats ((k.drop 4).take 4))) h1
  generalize upd G0 p1 (HO.lst (nats ((k.drop 4).take 4)))=G1 at *
  refine ⟨_,rfl,_,rfl,_,rfl,a,_,rfl,SqL.of (s1 _ _ (s0 _ _ ha)),fun p2 h2=>?_⟩
  rw[c2]
  obtain ⟨s2,e2⟩:=Zp (o:=.lst (nats ((k.drop 8).take 4))) h2
  generalize upd G1 p2 (HO.lst (nats ((k.drop 8).take 4)))=G2 at *
  refine ⟨_,rfl,_,rfl,_,rfl,a,_,rfl,SqL.of (s2 _ _ (s1 _ _ (s0 _ _ ha))),fun p3 h3=>?_⟩
  rw[c3]
  obtain ⟨s3,e3⟩:=Zp (o:=.lst (nats ((k.drop 12).take 4))) h3
  generalize upd G2 p3 (HO.lst (nats ((k.drop 12).take 4)))=G3 at *
  refine ⟨(show 4≤sizeLine by decide),fun pw hw=>?_⟩
  obtain ⟨sw,ew⟩:=Zp (o:=.lst [V.ref p0,V.ref p1,V.ref p2,V.ref p3]) hw
  generalize upd G3 pw (HO.lst [V.ref p0,V.ref p1,V.ref p2,V.ref p3])=G4 at *
  have hS:Same H G4:=(((s0.trans s1).trans s2).trans s3).trans sw
  have hw0:H pw=none:=(((s0.trans s1).trans s2).trans s3).free hw
  have e0:=s3 _ _ (s2 _ _ (s1 _ _ e0))
  have e1:=s3 _ _ (s2 _ _ e1)
  have e2:=s3 _ _ e2
  have R0:Rows G4 pw (keyS 4 k):=⟨[p0,p1,p2,p3],ew,rfl,fun i x hx=>by
   match i,hx with
   | 0,hx=>cases hx;exact ⟨_,rfl,sw _ _ e0⟩
   | 1,hx=>cases hx;exact ⟨_,rfl,sw _ _ e1⟩
   | 2,hx=>cases hx;exact ⟨_,rfl,sw _ _ e2⟩
   | 3,hx=>cases hx;exact ⟨_,rfl,sw _ _ e3⟩
   | n+4,hx=>simp at hx⟩
  have A0:Apart G4 pw:=fun xs hxs y hy e=>by
   rw[ew] at hxs
   cases hxs
   rw[e] at hy
   simp only[List.mem_cons,List.not_mem_nil,or_false,V.ref.injEq] at hy
   rcases hy with rfl|rfl|rfl|rfl
   ·rw[e0] at hw;cases hw
   ·rw[e1] at hw;cases hw
   ·rw[e2] at hw;cases hw
   ·rw[e3] at hw;cases hw
  clear e0 e1 e2 e3 c0 c1 c2 c3 s0 s1 s2 s3 sw ew h0 h1 h2 h3 hw
  refine ⟨_,_,rfl,rfl,_,_,rfl,rfl,.inl ⟨by decide,by decide⟩,_,_,rfl,⟨by decide,by decide,by decide,by decide⟩,for_range (n:=40) (fun i σ H2=>∃v3 v4,σ=[some (.ref a),some (.ref pw),some (nV (factorAt ((i+3)/4))),v3,v4,none]∧Same H H2∧Rows H2 pw (keyS (4+i) k)∧Apart H2 pw)
   ⟨none,none,rfl,hS,R0,A0⟩ ?_ ?_⟩
  ·rintro i σ H2 hi ⟨v3,v4,rfl,s2,hR,hA⟩
   clear R0 A0 hS
   obtain ⟨w1,w4,h1,h4,ek⟩:=keyS_high (n:=4+i) k (by omega)
   have hw:H pw=none:=hw0
   have a1:=keyS_w4 hk.len hk.lt (4+i) _ (List.mem_of_getElem? h1)
   have a4:=keyS_w4 hk.len hk.lt (4+i) _ (List.mem_of_getElem? h4)
   obtain ⟨xs,hws,hwl⟩:=hR.list
   refine ⟨_,rfl,_,rfl,_,_,rfl,rfl,Rows.at hR h1 (by omega) fun x1 hx1=>?_⟩
   refine ⟨_,rfl,_,_,rfl,rfl,(by show (0:Int)<4;decide),rfl,_,rfl,ite2 (fun h=>?_) fun h=>?_⟩
   ·have hm:(4+i)%4=0:=by
     have:=V.int.inj (of_decide_eq_true h)
     omega
    rw[if_pos hm] at ek
    refine ⟨_,rfl,_,rfl,x1,_,rfl,SqL.of hx1,fun q1 g1=>?_⟩
    have t1:=Zk (o:=.lst (cutV (nats w1) (some 1) none)) g1
    refine ⟨_,rfl,_,rfl,x1,_,rfl,SqL.of (t1 _ _ hx1),fun q2 g2=>?_⟩
    have t2:=Zk (o:=.lst (cutV (nats w1) none (some 1))) g2
    have f1:cutV (nats w1) (some 1) none=nats (w1.drop 1):=cut_from (i:=1)
    have f2:cutV (nats w1) none (some 1)=nats (w1.take 1):=cut_to (j:=1)
    refine rcat (t2 _ _ Zc) Zc ?_ fun q3 g3=>?_
    ·rw[f1,f2,Zh,Zh,List.length_drop,List.length_take,a1.len];decide
    rw[f1,f2,← Z2]
    rw[f1] at t1 t2 g2 g3
    rw[f2] at t2 g3
    have t3:=Zk (o:=.lst (nats (w1.drop 1++w1.take 1))) g3
    refine ⟨q3,rfl,⟨_,SqL.of Zc⟩,fun D hD=>lc_lst (fun i=>nV (subN ((w1.drop 1++w1.take 1).getD i 0))) (SqL.of Zc) ?_ hD (fun j H' x hx u1 N hN=>?_) fun H' u1 h1'=>?_⟩
    ·rw[Zh,List.length_append,List.length_drop,List.length_take,a1.len];decide
    ·obtain ⟨_,rfl⟩:=Xx hx
     have hlt:(w1.drop 1++w1.take 1).getD j 0<256:=Yo (fun y hy=>by
      rcases List.mem_append.mp hy with hy|hy
      ·exact a1.lt y (List.mem_of_mem_drop hy)
      ·exact a1.lt y (List.mem_of_mem_take hy)) (by decide)
     refine ⟨_,rfl,rixT _ (T.q_SWAPPED _) rfl hlt ?_⟩
     have:=hN H' (Same.refl _)
     rw[subN_tab] at this
     exact this
    have hm4:=a1.turned
    rw[Zh,map_getD] at h1'
    have sD:=((t1.trans t2).trans t3).trans u1
    refine ⟨_,rfl,D,_,_,_,rfl,rfl,SqL.of h1',at_n (j:=0) (by rw[hm4.len];decide) rfl,_,rfl,_,_,rfl,rfl,_,rfl,D,_,0,0,rfl,rfl,h1',?_,?_⟩
    ·rw[Zh,hm4.len];rfl
    rw[set0 hm4.len]
    have hnD:H2 D=none:=((t1.trans t2).trans t3).free hD
    have s5:Same H2 (upd H' D (.lst (nats (Md33.xor ((w1.drop 1++w1.take 1).map subN) [factorAt ((i+3)/4),0,0,0])))):=fun b o e=>by
     rw[Zn (Zg e hnD)];exact sD _ _ e
    refine ⟨_,rfl,_,_,rfl,rfl,factorAt_lt _,?_⟩
    have hwd:=Zc (H:=H') (a:=D) (o:=.lst (nats (Md33.xor ((w1.drop 1++w1.take 1).map subN) [factorAt ((i+3)/4),0,0,0])))
    have ef:(4+i)/4-1=(i+3)/4:=by omega
    rw[ef] at ek
    refine ⟨_,rfl,Yg (s5 _ _ hws),_,rfl,_,rfl,_,_,rfl,rfl,Rows.at (hR.same s5) h4 (by omega) fun x4 hx4=>?_⟩
    refine ⟨_,rfl,x4,_,w4,_,rfl,hx4,hwd,by rw[a4.len];decide,fun r H6 s6 n6 e6=>?_⟩
    have s56:=s5.trans s6
    refine ⟨_,_,_,rfl,rfl,s56 _ _ hws,by rw[hwl,Qt,Qh];omega,?_⟩
    refine ⟨some (V.int (4+(i:Nat))),some (V.ref D),?_,fun b o e=>?_,?_,fun xs hxs y hy=>?_⟩
    rotate_left
    ·rw[Zn (Zg e hw)];exact s56 _ _ (s2 _ _ e)
    ·rw[show 4+(i+1)=4+i+1 by omega,ek]
     exact hR.push s56 (s56 _ _ hws) (s5.free n6) e6 (hA _ hws)
    ·rw[Zc] at hxs
     cases hxs
     rcases List.mem_append.mp hy with hy|hy
     ·exact hA _ hws y hy
     ·have ey:V.ref y=V.ref r:=List.mem_singleton.mp hy
      cases ey
      exact fun e=>by rw[← e] at hws;rw[s5 _ _ hws] at n6;cases n6
    show ([some (V.ref a),some (V.ref pw),some (nV (Md33.doubled (factorAt ((i+3)/4)))),some (V.int (4+(i:Nat))),some (V.ref D),none]:St)=_
    rw[← factorAt_succ,show (i+3)/4+1=(i+1+3)/4 by omega]
   ·have hm:¬ (4+i)%4=0:=fun z=>h (decide_eq_true (show V.int ((4+((i:Nat):Int))%4)=V.int 0 by rw[show (4+((i:Nat):Int))%4=0 by omega]))
    rw[if_neg hm] at ek
    have s5:=Same.refl H2
    have hwd:=hx1
    refine ⟨_,rfl,Yg (s5 _ _ hws),_,rfl,_,rfl,_,_,rfl,rfl,Rows.at (hR.same s5) h4 (by omega) fun x4 hx4=>?_⟩
    refine ⟨_,rfl,x4,_,w4,_,rfl,hx4,hwd,by rw[a4.len];decide,fun r H6 s6 n6 e6=>?_⟩
    have s56:=s5.trans s6
    refine ⟨_,_,_,rfl,rfl,s56 _ _ hws,by rw[hwl,Qt,Qh];omega,?_⟩
    refine ⟨some (V.int (4+(i:Nat))),some (V.ref x1),?_,fun b o e=>?_,?_,fun xs hxs y hy=>?_⟩
    rotate_left
    ·rw[Zn (Zg e hw)];exact s56 _ _ (s2 _ _ e)
    ·rw[show 4+(i+1)=4+i+1 by omega,ek]
     exact hR.push s56 (s56 _ _ hws) (s5.free n6) e6 (hA _ hws)
    ·rw[Zc] at hxs
     cases hxs
     rcases List.mem_append.mp hy with hy|hy
     ·exact hA _ hws y hy
     ·have ey:V.ref y=V.ref r:=List.mem_singleton.mp hy
      cases ey
      exact fun e=>by rw[← e] at hws;rw[s5 _ _ hws] at n6;cases n6
    show ([some (V.ref a),some (V.ref pw),some (nV (factorAt ((i+3)/4))),some (V.int (4+(i:Nat))),some (V.ref x1),none]:St)=_
    rw[show (i+3)/4=(i+1+3)/4 by omega]
  ·rintro σ H2 ⟨v3,v4,rfl,s2,hR,hA⟩
   clear R0 A0 hS
   obtain ⟨xs,hws,hwl⟩:=hR.list
   rw[Qh] at hwl
   refine ⟨_,rfl,pw,_,rfl,.inl (SqL.of hws),_,_,_,11,rfl,?_,fun D hD=>lcg_rngC (fun i H3=>Same H2 H3∧Rows H3 D ((List.range i).map (roundK k))∧∀xs,H3 D=some (.lst xs)→∀y:Addr,V.ref y∈xs→y≠D∧H y=none) ⟨Zk hD,⟨[],Zc,rfl,fun i x hx=>by simp at hx⟩,fun ys hys y hy=>?_⟩ (fun i H3 hi ⟨s3,hR3,hA3⟩=>?_) fun H3 ⟨s3,hR3,hA3⟩=>?_⟩
   ·rw[hwl]
    exact rgc (c:=4) (n:=11) (by decide) (by decide) (by decide) rfl
   ·rw[Zc] at hys
    cases hys
    cases hy
   ·have hR':=hR.same s3
    have hl44:=Qh 44 k
    obtain ⟨w0,g0⟩:∃w,(keyS 44 k)[4*i]?=some w:=⟨_,List.getElem?_eq_getElem (by omega)⟩
    obtain ⟨w1,g1⟩:∃w,(keyS 44 k)[4*i+1]?=some w:=⟨_,List.getElem?_eq_getElem (by omega)⟩
    obtain ⟨w2,g2⟩:∃w,(keyS 44 k)[4*i+2]?=some w:=⟨_,List.getElem?_eq_getElem (by omega)⟩
    obtain ⟨w3,g3⟩:∃w,(keyS 44 k)[4*i+3]?=some w:=⟨_,List.getElem?_eq_getElem (by omega)⟩
    have b0:=(keyS_w4 hk.len hk.lt 44 _ (List.mem_of_getElem? g0)).len
    have b1:=(keyS_w4 hk.len hk.lt 44 _ (List.mem_of_getElem? g1)).len
    have b2:=(keyS_w4 hk.len hk.lt 44 _ (List.mem_of_getElem? g2)).len
    have b3:=(keyS_w4 hk.len hk.lt 44 _ (List.mem_of_getElem? g3)).len
    have er:roundK k i=w0++w1++w2++w3:=by
     show (((keyS 44 k).drop (4*i)).take 4).flatten=_
     have:((keyS 44 k).drop (4*i)).take 4=[w0,w1,w2,w3]:=by
      apply List.ext_getElem?
      intro j
      by_cases hj:j<4
      ·rw[List.getElem?_take_of_lt hj,List.getElem?_drop]
       match j,hj with
       | 0,_=>exact g0
       | 1,_=>exact g1
       | 2,_=>exact g2
       | 3,_=>exact g3
      ·rw[List.getElem?_eq_none (by simp;omega),List.getElem?_eq_none (by simp;omega)]
     rw[this]
     simp
    refine ⟨_,rfl,_,rfl,Rows.at hR' g0 (by omega) fun x0 hx0=>⟨_,rfl,_,rfl,_,_,rfl,rfl,Rows.at hR' g1 (by omega) fun x1 hx1=>?_⟩⟩
    refine rcat hx0 hx1 (by rw[Zh,Zh,b0,b1];decide) fun p1 h1=>?_
    obtain ⟨u1,v1⟩:=Zp (o:=.lst (nats w0++nats w1)) h1
    generalize upd H3 p1 (HO.lst (nats w0++nats w1))=G1 at *
    refine ⟨_,rfl,_,rfl,_,_,rfl,rfl,Rows.at (hR'.same u1) g2 (by omega) fun x2 hx2=>?_⟩
    refine rcat v1 hx2 (by rw[List.length_append,Zh,Zh,Zh,b0,b1,b2];decide) fun p2 h2=>?_
    obtain ⟨u2,v2⟩:=Zp (o:=.lst (nats w0++nats w1++nats w2)) h2
    generalize upd G1 p2 (HO.lst (nats w0++nats w1++nats w2))=G2 at *
    refine ⟨_,rfl,_,rfl,_,_,rfl,rfl,Rows.at ((hR'.same u1).same u2) g3 (by omega) fun x3 hx3=>?_⟩
    refine rcat v2 hx3 (by rw[List.length_append,List.length_append,Zh,Zh,Zh,Zh,b0,b1,b2,b3];decide) fun p3 h3=>?_
    obtain ⟨u3,v3⟩:=Zp (o:=.lst (nats w0++nats w1++nats w2++nats w3)) h3
    generalize upd G2 p3 (HO.lst (nats w0++nats w1++nats w2++nats w3))=G3 at *
    have u:=(u1.trans u2).trans u3
    obtain ⟨ys,hys,hyl⟩:=hR3.list
    rw[← Z2,← Z2,← Z2,← er] at v3
    rw[List.length_map,List.length_range] at hyl
    refine ⟨ys,u _ _ hys,by rw[hyl,Qt];omega,fun b o e=>?_,?_,fun zs hzs y hy=>?_⟩
    ·rw[Zn (Zg e hD)];exact u _ _ (s3 _ _ e)
    ·rw[List.range_succ,List.map_append]
     exact hR3.push u (u _ _ hys) ((u1.trans u2).free h3) v3 fun y hy=>(hA3 _ hys y hy).1
    ·rw[Zc] at hzs
     cases hzs
     rcases List.mem_append.mp hy with hy|hy
     ·exact hA3 _ hys y hy
     ·have ey:V.ref y=V.ref p3:=List.mem_singleton.mp hy
      cases ey
      refine ⟨fun e=>?_,((s2.trans s3).trans (u1.trans u2)).free h3⟩
      have:=(u1.trans u2) _ _ hys
      rw[← e] at this
      rw[this] at h3;cases h3
   ·exact q D H3 (s2.trans s3) (s2.free hD) hR3 fun xs hxs y hy=>(hA3 xs hxs y hy).2
def sp_shut_block :Sp:=fun vs H Q _=>∃(a sc:Addr) (b k:List Nat),vs=[.ref a,.ref sc]∧H a=some (.lst (nats b))∧Rows H sc ((List.range 11).map (roundK k))∧B16 b∧B16 k∧∀r H',Same H H'→H r=none→H' r=some (.lst (nats (Md33.shutBlock (Md33.wordsOf k) b)))→Q (.ref r) H'
theorem ok_shut_block (T:Txt K mg t):OkF P w K mg base 3 "shut_block" ["block","schedule"] (sp_shut_block ):=by
 refine okF T.d_shut_block J6 (fun vs H Q E h=>?_) (fun f cdv A outer s H vs Q E hr h=>?_)
 ·obtain ⟨a,sc,b,k,rfl,ha,hs,hb,hk,q⟩:=h
  rfl
 ·obtain ⟨a,sc,b,k,rfl,ha,hs,hb,hk,q⟩:=h
  refine ⟨_,(Zb (Zo (i:=2) J6.nd rfl (Or.inl rfl) (pf (ok_xor T) hr (Za (pv 0) (Za (Zx (Zl (K:=K) rfl) (pv 1) Zf (fun _ _=>rfl)) Zd))))
   (Zb (Y2 PassesOwn.never rfl (pi_range2 rfl T.n_range (Za Zf (Za (pgi rfl T.c_LAST_TURN) Zd))) (Z3 (i:=3) J6.nd rfl (Or.inl rfl)) (Ze (Zo (i:=2) J6.nd rfl (Or.inl rfl) (pf (ok_xor T) hr (Za (pf (ok_mixed T) hr (Za (pf (Jr T) hr (Za (pv 2) Zd)) Zd)) (Za (Zx (Zl (K:=K) rfl) (pv 1) (pv 3) (fun _ _=>rfl)) Zd))))))
   (Ze (Zj (pf (ok_xor T) hr (Za (pf (Jr T) hr (Za (pv 2) Zd)) (Za (Zx (Zl (K:=K) rfl) (pv 1) (pgi rfl T.c_LAST_TURN) (fun _ _=>rfl)) Zd))))))),?_⟩
  have rk:∀i,i<11→((List.range 11).map (roundK k))[i]?=some (roundK k i):=fun i hi=>by rw[List.getElem?_map,List.getElem?_range hi];rfl
  refine ⟨_,rfl,_,rfl,hs.at (rk 0 (by decide)) rfl fun x0 hx0=>⟨a,x0,b,_,rfl,ha,hx0,by rw[hb.len];decide,fun r1 H1 s1 n1 e1=>?_⟩⟩
  refine ⟨_,_,rfl,⟨by decide,by decide,by decide,by decide⟩,for_range (n:=9) (fun i σ H2=>∃p v3,σ=[some (.ref a),some (.ref sc),some (.ref p),v3]∧Same H H2∧H2 p=some (.lst (nats (turnsS k b i)))) ⟨r1,none,rfl,s1,e1⟩ ?_ ?_⟩
  ·rintro i σ H2 hi ⟨p,v3,rfl,s2,h2⟩
   have ht:=turnsS_16 hk hb i (by omega)
   refine ⟨_,rfl,p,_,rfl,h2,ht,fun r3 H3 s3 n3 e3=>⟨r3,_,rfl,e3,ht.sub,fun r4 H4 s4 n4 e4=>?_⟩⟩
   refine ⟨_,rfl,_,rfl,(hs.same ((s2.trans s3).trans s4)).at (rk (i+1) (by omega)) (by omega) fun x hx=>⟨r4,x,_,_,rfl,e4,hx,by rw[mix_length];decide,fun r5 H5 s5 n5 e5=>?_⟩⟩
   exact ⟨r5,_,rfl,((s2.trans s3).trans s4).trans s5,by rw[e5,turnsS_succ]⟩
  ·rintro σ H2 ⟨p,v3,rfl,s2,h2⟩
   have ht:=turnsS_16 hk hb 9 (by omega)
   refine ⟨_,rfl,p,_,rfl,h2,ht,fun r3 H3 s3 n3 e3=>?_⟩
   refine ⟨_,rfl,(hs.same (s2.trans s3)).at (rk 10 (by decide)) rfl fun x hx=>⟨r3,x,_,_,rfl,e3,hx,by rw[ht.sub.len];decide,fun r5 H5 s5 n5 e5=>?_⟩⟩
   exact q r5 H5 ((s2.trans s3).trans s5) ((s2.trans s3).free n5) (by rw[e5,shutBlock_eq])
theorem shutFrom_succ (ws:List Md33.Bytes) (n:Nat) (s b:Md33.Bytes):Md33.shutFrom ws (n+1) s b=Md33.shutBlock ws (Md33.xor (b.take 16) s)++Md33.shutFrom ws n (Md33.shutBlock ws (Md33.xor (b.take 16) s)) (b.drop 16):=rfl
def sp_shut_from :Sp:=fun vs H Q _=>∃(a b sc:Addr) (s0 x k:List Nat) (n:Nat),vs=[.ref a,.ref b,.ref sc]∧H a=some (.lst (nats s0))∧H b=some (.lst (nats x))∧Rows H sc ((List.range 11).map (roundK k))∧B16 s0∧B16 k∧x.length=16*n∧n≤70000∧(∀y∈x,y<256)∧∀r H',Same H H'→H r=none→H' r=some (.lst (nats (Md33.shutFrom (Md33.wordsOf k) n s0 x)))→Q (.ref r) H'
theorem ok_shut_from (T:Txt K mg t):OkF P w K mg base 4 "shut_from" ["start","text","schedule"] (sp_shut_from ):=by
 refine okF T.d_shut_from Jm (fun vs H Q E h=>?_) (fun f cdv A outer s H vs Q E hr h=>?_)
 ·obtain ⟨a,b,sc,s0,x,k,n,rfl,ha,hb,hs,h0,hk,hx,hn,hy,q⟩:=h
  rfl
 ·obtain ⟨a,b,sc,s0,x,k,n,rfl,ha,hb,hs,h0,hk,hx,hn,hy,q⟩:=h
  refine ⟨_,(Zb (Zo (i:=3) Jm.nd rfl (Or.inl rfl) (Zz Zd))
   (Zb (Zo (i:=4) Jm.nd rfl (Or.inl rfl) (pv 0))
   (Zb (Y2 PassesOwn.never rfl (Xw rfl T.n_range (Za Zf (Za (Zs (Zq (K:=K) rfl) rfl T.n_len PySem.boot_len (Za (pv 1) Zd)) (Za (pgi rfl T.c_BLOCK_BYTES_cipher) Zd)))) (Z3 (i:=5) Jm.nd rfl (Or.inl rfl)) (Zb (Zo (i:=4) Jm.nd rfl (Or.inl rfl) (pf (ok_shut_block T) hr (Za (pf (ok_xor T) hr (Za (Z1 (Z0 (K:=K) rfl) (pv 1) (Zv (pv 5)) (Zv (Zm Z5 (pv 5) (pgi rfl T.c_BLOCK_BYTES_cipher)))) (Za (pv 4) Zd))) (Za (pv 2) Zd))))
   (Ze (Z6 (Yu (K:=K) rfl PySem.F.plainAttrs_list PySem.F.slot_list_extend PySem.F.type_list_extend J2 (pv 3) (Za (pv 4) Zd))))))
   (Ze (Zj (pv 3)))))),?_⟩
  refine ⟨by decide,fun p hp=>?_⟩
  obtain ⟨u0,v0⟩:=Zp (o:=.lst []) hp
  generalize upd H p (HO.lst [])=G0 at *
  refine ⟨_,rfl,_,rfl,b,_,rfl,.inl (SqL.of (u0 _ _ hb)),_,_,_,n,rfl,?_,Jj (fun i σ H2=>∃(pb:Addr) (v5:Option V) (out sb:List Nat),σ=[some (.ref a),some (.ref b),some (.ref sc),some (.ref p),some (.ref pb),v5]∧Same H H2∧H2 p=some (.lst (nats out))∧H2 pb=some (.lst (nats sb))∧pb≠p∧B16 sb∧out.length=16*i ∧
   out++Md33.shutFrom (Md33.wordsOf k) (n-i) sb (x.drop (16*i))=Md33.shutFrom (Md33.wordsOf k) n s0 x) ⟨a,none,[],s0,rfl,u0,v0,u0 _ _ ha,Zg ha hp,h0,rfl,by simp⟩ ?_ ?_⟩
  ·rw[Zh,hx]
   exact rgc (c:=16) (n:=n) (by decide) (by decide) (by omega) rfl
  ·rintro i σ H2 hi ⟨pb,v5,out,sb,rfl,s2,hp2,hb2,hne,h16,hol,he⟩
   refine ⟨_,rfl,_,rfl,_,rfl,_,rfl,_,_,rfl,rfl,_,rfl,b,_,rfl,SqL.of (s2 _ _ hb),fun pc hc=>?_⟩
   have e1:(0:Int)+(i:Nat)*16=((16*i:Nat):Int):=by omega
   have e2:(0:Int)+(i:Nat)*16+16=((16*i+16:Nat):Int):=by omega
   rw[e2,e1,cut_n (by omega),show 16*i+16-16*i=16 by omega]
   obtain ⟨u3,v3⟩:=Zp (o:=.lst (nats ((x.drop (16*i)).take 16))) hc
   generalize upd H2 pc (HO.lst (nats ((x.drop (16*i)).take 16)))=G3 at *
   have hb16:B16 ((x.drop (16*i)).take 16):=⟨by rw[List.length_take,List.length_drop];omega,fun y hy'=>hy y (List.mem_of_mem_drop (List.mem_of_mem_take hy'))⟩
   refine ⟨_,rfl,pc,pb,_,_,rfl,v3,u3 _ _ hb2,by rw[hb16.len];decide,fun r4 H4 s4 n4 e4=>?_⟩
   have hxr:=hb16.xor h16
   refine ⟨_,rfl,r4,sc,_,k,rfl,e4,hs.same ((s2.trans u3).trans s4),hxr,hk,fun r5 H5 s5 n5 e5=>?_⟩
   have hsb:=shutBlock_16 hk hxr
   have s25:=(u3.trans s4).trans s5
   have n5':H2 r5=none:=(u3.trans s4).free n5
   refine ⟨_,rfl,Yg (s25 _ _ hp2),_,rfl,_,_,_,_,rfl,rfl,s25 _ _ hp2,e5,?_,?_⟩
   ·rw[Zh,Zh,hol,hsb.len,Qt];omega
   have hrp:r5≠p:=fun e=>by rw[e,hp2] at n5';cases n5'
   refine ⟨r5,_,out++Md33.shutBlock (Md33.wordsOf k) (Md33.xor ((x.drop (16*i)).take 16) sb),Md33.shutBlock (Md33.wordsOf k) (Md33.xor ((x.drop (16*i)).take 16) sb),rfl,fun c o e=>?_,?_,?_,hrp,hsb,?_,?_⟩
   ·rw[Zn (Zg e hp)];exact s25 _ _ (s2 _ _ e)
   ·rw[Zc,Z2]
   ·rw[Zn hrp];exact e5
   ·rw[List.length_append,hol,hsb.len];omega
   ·rw[← he,List.append_assoc,show n-i=(n-(i+1))+1 by omega,shutFrom_succ,List.drop_drop,show 16*i+16=16*(i+1) by omega]
  ·rintro σ H2 ⟨pb,v5,out,sb,rfl,s2,hp2,hb2,hne,h16,hol,he⟩
   refine ⟨_,rfl,q p _ s2 hp ?_⟩
   rw[Nat.sub_self] at he
   have e:out=Md33.shutFrom (Md33.wordsOf k) n s0 x:=by
    rw[← he]
    show out=out++[]
    rw[List.append_nil]
   rw[hp2,e]
end
theorem unshifted_map (f:Nat→Nat) {s:Md33.Bytes} (hs:s.length=16):(Md33.unshifted s).map f=[0,13,10,7,4,1,14,11,8,5,2,15,12,9,6,3].map fun i=>f (s.getD i 0):=by
 unfold Md33.unshifted
 rw[List.map_map]
 rfl
def lev (a b c d:Nat):List Nat:=[a ^^^ dbl (dbl (a ^^^ c)),b ^^^ dbl (dbl (b ^^^ d)),c ^^^ dbl (dbl (a ^^^ c)),d ^^^ dbl (dbl (b ^^^ d))]
def leveled (b:Md33.Bytes):Md33.Bytes:=lev (b.getD 0 0) (b.getD 1 0) (b.getD 2 0) (b.getD 3 0)++(lev (b.getD 4 0) (b.getD 5 0) (b.getD 6 0) (b.getD 7 0)++(lev (b.getD 8 0) (b.getD 9 0) (b.getD 10 0) (b.getD 11 0)++lev (b.getD 12 0) (b.getD 13 0) (b.getD 14 0) (b.getD 15 0)))
theorem leveled_length (b:Md33.Bytes):(leveled b).length=16:=rfl
theorem leveled_col (b:Md33.Bytes) {c:Nat} (hc:c<4):(leveled b).take (4*(c+1))=(leveled b).take (4*c)++lev (b.getD (4*c) 0) (b.getD (4*c+1) 0) (b.getD (4*c+2) 0) (b.getD (4*c+3) 0):=by
 match c,hc with
 | 0,_=>rfl
 | 1,_=>rfl
 | 2,_=>rfl
 | 3,_=>rfl
def q4 (x:Nat):Nat:=dbl (dbl x)
theorem Jf {x:Nat} (h:x<256):dbl x<256:=by
 have:=Jv (p:=fun x=>decide (dbl x<256)) (n:=256) (by decide +kernel) x h
 exact of_decide_eq_true this
theorem q4_lt {x:Nat} (h:x<256):q4 x<256:=Jf (Jf h)
theorem q4_xor {x y:Nat} (hx:x<256) (hy:y<256):q4 (x ^^^ y)=q4 x ^^^ q4 y:=by
 unfold q4
 rw[dbl_xor hx hy,← Xs hx,← Xs hy,dbl_xor (Jf hx) (Jf hy),← Xs (Jf hx),← Xs (Jf hy)]
theorem lone (x:Nat) (h:x<256):Md33.product x 2 ^^^ Md33.product (q4 x) 2 ^^^ Md33.product (q4 x) 1=Md33.product x 14∧Md33.product x 3 ^^^ Md33.product (q4 x) 3 ^^^ Md33.product (q4 x) 1=Md33.product x 11 ∧
  Md33.product (q4 x) 2 ^^^ Md33.product x 1 ^^^ Md33.product (q4 x) 1=Md33.product x 13∧Md33.product (q4 x) 3 ^^^ Md33.product x 1 ^^^ Md33.product (q4 x) 1=Md33.product x 9:=by
 have:=Jv (p:=fun x=>decide (Md33.product x 2 ^^^ Md33.product (q4 x) 2 ^^^ Md33.product (q4 x) 1=Md33.product x 14∧Md33.product x 3 ^^^ Md33.product (q4 x) 3 ^^^ Md33.product (q4 x) 1=Md33.product x 11 ∧
  Md33.product (q4 x) 2 ^^^ Md33.product x 1 ^^^ Md33.product (q4 x) 1=Md33.product x 13∧Md33.product (q4 x) 3 ^^^ Md33.product x 1 ^^^ Md33.product (q4 x) 1=Md33.product x 9)) (n:=256) (by decide +kernel) x h
 exact of_decide_eq_true this
theorem rowL {a b c d:Nat} (ha:a<256) (hb:b<256) (hc:c<256) (hd:d<256):
  Md33.product (a ^^^ q4 (a ^^^ c)) 2 ^^^ Md33.product (b ^^^ q4 (b ^^^ d)) 3 ^^^ Md33.product (c ^^^ q4 (a ^^^ c)) 1 ^^^ Md33.product (d ^^^ q4 (b ^^^ d)) 1=Md33.product a 14 ^^^ Md33.product b 11 ^^^ Md33.product c 13 ^^^ Md33.product d 9:=by
 have qa:=q4_lt ha;have qb:=q4_lt hb;have qc:=q4_lt hc;have qd:=q4_lt hd
 rw[q4_xor ha hc,q4_xor hb hd,Yj 2 ha (Zw qa qc),Yj 2 qa qc,Yj 3 hb (Zw qb qd),Yj 3 qb qd,Yj 1 hc (Zw qa qc),Yj 1 qa qc,Yj 1 hd (Zw qb qd),Yj 1 qb qd]
 rw[← (lone a ha).1,← (lone b hb).2.1,← (lone c hc).2.2.1,← (lone d hd).2.2.2]
 generalize Md33.product a 2=x1;generalize Md33.product (q4 a) 2=x2;generalize Md33.product (q4 a) 1=x3;generalize Md33.product b 3=x4;generalize Md33.product (q4 b) 3=x5;generalize Md33.product (q4 b) 1=x6
 generalize Md33.product (q4 c) 2=x7;generalize Md33.product c 1=x8;generalize Md33.product (q4 c) 1=x9;generalize Md33.product (q4 d) 3=y1;generalize Md33.product d 1=y2;generalize Md33.product (q4 d) 1=y3
 ac_rfl
theorem rowL0 {a b c d:Nat} (ha:a<256) (hb:b<256) (hc:c<256) (hd:d<256):
  0 ^^^ Md33.product (a ^^^ q4 (a ^^^ c)) 2 ^^^ Md33.product (b ^^^ q4 (b ^^^ d)) 3 ^^^ Md33.product (c ^^^ q4 (a ^^^ c)) 1 ^^^ Md33.product (d ^^^ q4 (b ^^^ d)) 1=0 ^^^ Md33.product a 14 ^^^ Md33.product b 11 ^^^ Md33.product c 13 ^^^ Md33.product d 9:=by
 rw[Nat.zero_xor,Nat.zero_xor];exact rowL ha hb hc hd
theorem rowL1 {a b c d:Nat} (ha:a<256) (hb:b<256) (hc:c<256) (hd:d<256):
  0 ^^^ Md33.product (a ^^^ q4 (a ^^^ c)) 1 ^^^ Md33.product (b ^^^ q4 (b ^^^ d)) 2 ^^^ Md33.product (c ^^^ q4 (a ^^^ c)) 3 ^^^ Md33.product (d ^^^ q4 (b ^^^ d)) 1=0 ^^^ Md33.product a 9 ^^^ Md33.product b 14 ^^^ Md33.product c 11 ^^^ Md33.product d 13:=by
 rw[Nat.zero_xor,Nat.zero_xor]
 have:=rowL hb hc hd ha
 rw[Nat.xor_comm c a] at this
 rw[rot4,this,← rot4]
theorem rowL2 {a b c d:Nat} (ha:a<256) (hb:b<256) (hc:c<256) (hd:d<256):
  0 ^^^ Md33.product (a ^^^ q4 (a ^^^ c)) 1 ^^^ Md33.product (b ^^^ q4 (b ^^^ d)) 1 ^^^ Md33.product (c ^^^ q4 (a ^^^ c)) 2 ^^^ Md33.product (d ^^^ q4 (b ^^^ d)) 3=0 ^^^ Md33.product a 13 ^^^ Md33.product b 9 ^^^ Md33.product c 14 ^^^ Md33.product d 11:=by
 rw[Nat.zero_xor,Nat.zero_xor]
 have:=rowL hc hd ha hb
 rw[Nat.xor_comm c a,Nat.xor_comm d b] at this
 rw[rot4,rot4,this,← rot4,← rot4]
theorem rowL3 {a b c d:Nat} (ha:a<256) (hb:b<256) (hc:c<256) (hd:d<256):
  0 ^^^ Md33.product (a ^^^ q4 (a ^^^ c)) 3 ^^^ Md33.product (b ^^^ q4 (b ^^^ d)) 1 ^^^ Md33.product (c ^^^ q4 (a ^^^ c)) 1 ^^^ Md33.product (d ^^^ q4 (b ^^^ d)) 2=0 ^^^ Md33.product a 11 ^^^ Md33.product b 13 ^^^ Md33.product c 9 ^^^ Md33.product d 14:=by
 rw[Nat.zero_xor,Nat.zero_xor]
 have:=rowL hd ha hb hc
 rw[Nat.xor_comm d b] at this
 rw[← rot4,this,rot4]
theorem mix_leveled {v:Md33.Bytes} (h:B16 v):Md33.mix [2,3,1,1] (leveled v)=Md33.mix [14,11,13,9] v:=by
 obtain ⟨hl,hb⟩:=h
 match v,hl with
 | [x0,x1,x2,x3,x4,x5,x6,x7,x8,x9,x10,x11,x12,x13,x14,x15],_=>
  have h0:=hb x0 (by simp);have h1:=hb x1 (by simp);have h2:=hb x2 (by simp);have h3:=hb x3 (by simp)
  have h4:=hb x4 (by simp);have h5:=hb x5 (by simp);have h6:=hb x6 (by simp);have h7:=hb x7 (by simp)
  have h8:=hb x8 (by simp);have h9:=hb x9 (by simp);have h10:=hb x10 (by simp);have h11:=hb x11 (by simp)
  have h12:=hb x12 (by simp);have h13:=hb x13 (by simp);have h14:=hb x14 (by simp);have h15:=hb x15 (by simp)
  refine Eq.trans (b:=[_,_,_,_,_,_,_,_,_,_,_,_,_,_,_,_]) rfl (Eq.trans ?_ (Eq.symm (a:=Md33.mix _ _) (b:=[_,_,_,_,_,_,_,_,_,_,_,_,_,_,_,_]) rfl))
  exact congr (congrArg List.cons (rowL0 h0 h1 h2 h3)) (congr (congrArg List.cons (rowL1 h0 h1 h2 h3)) (congr (congrArg List.cons (rowL2 h0 h1 h2 h3)) (congr (congrArg List.cons (rowL3 h0 h1 h2 h3))
   (congr (congrArg List.cons (rowL0 h4 h5 h6 h7)) (congr (congrArg List.cons (rowL1 h4 h5 h6 h7)) (congr (congrArg List.cons (rowL2 h4 h5 h6 h7)) (congr (congrArg List.cons (rowL3 h4 h5 h6 h7))
   (congr (congrArg List.cons (rowL0 h8 h9 h10 h11)) (congr (congrArg List.cons (rowL1 h8 h9 h10 h11)) (congr (congrArg List.cons (rowL2 h8 h9 h10 h11)) (congr (congrArg List.cons (rowL3 h8 h9 h10 h11))
   (congr (congrArg List.cons (rowL0 h12 h13 h14 h15)) (congr (congrArg List.cons (rowL1 h12 h13 h14 h15)) (congr (congrArg List.cons (rowL2 h12 h13 h14 h15)) (congr (congrArg List.cons (rowL3 h12 h13 h14 h15)) rfl)))))))))))))))
theorem leveled_16 {v:Md33.Bytes} (h:B16 v):B16 (leveled v):=by
 have hg:∀i,v.getD i 0<256:=fun i=>Yo h.lt (by decide)
 have hl:∀{a b c d:Nat},a<256→b<256→c<256→d<256→∀x∈lev a b c d,x<256:=by
  intro a b c d ha hb hc hd x hx
  unfold lev at hx
  have e1:dbl (dbl (a ^^^ c))<256:=Jf (Jf (Zw ha hc))
  have e2:dbl (dbl (b ^^^ d))<256:=Jf (Jf (Zw hb hd))
  simp only[List.mem_cons,List.not_mem_nil,or_false] at hx
  rcases hx with rfl|rfl|rfl|rfl
  ·exact Zw ha e1
  ·exact Zw hb e2
  ·exact Zw hc e1
  ·exact Zw hd e2
 refine ⟨rfl,fun x hx=>?_⟩
 unfold leveled at hx
 simp only[List.mem_append] at hx
 rcases hx with hx|hx|hx|hx<;>exact hl (hg _) (hg _) (hg _) (hg _) x hx
section
variable {P:Program} {w:World} {K:PySem.W.Frag} {mg:Str→Option Value} {base:Heap} {t:Adr}
def Qq :Sp:=fun vs H Q _=>∃(a:Addr) (l:List Nat),vs=[.ref a]∧H a=some (.lst (nats l))∧B16 l∧∀r H',Same H H'→H r=none→H' r=some (.lst (nats ((Md33.unshifted l).map backN)))→Q (.ref r) H'
theorem Xn (T:Txt K mg t):OkF P w K mg base 1 "swapped_and_shifted_back" ["state"] (Qq ):=by
 refine okF T.d_swapped_and_shifted_back Yn (fun vs H Q E h=>?_) (fun f cdv A outer s H vs Q E hr h=>?_)
 ·obtain ⟨a,l,rfl,ha,hb,q⟩:=h
  rfl
 ·obtain ⟨a,l,rfl,ha,hb,q⟩:=h
  refine ⟨_,(Ze (Zj (pe_lc rfl Yn.nd (pi_tup (pgt rfl T.c_SHIFTED_BACK)) (Xt (N:=["state","place"]) (sc:=Qs Yr) (own:=[("place",1)]) (by decide +kernel)) (fun _ _ _ _ _=>(Z3 (i:=1) Yn.nd rfl (Or.inl rfl))) (fun _ _ _ _ _=>pts_nil) (fun _ _ _ _ _=>(Zx (ix_tupK (K:=K) rfl) (pgt rfl T.c_SWAPPED_BACK) (Zx (Zl (K:=K) rfl) (pv 0) (pv 1) (fun _ _=>rfl)) (fun _ _=>rfl)))))),?_⟩
  refine ⟨t.a_SHIFTED_BACK,rfl,⟨_,T.q_SHIFTED_BACK _⟩,fun D hD=>lc_tpl (fun i=>nV (backN (l.getD ([0,13,10,7,4,1,14,11,8,5,2,15,12,9,6,3].getD i 0) 0))) T.q_SHIFTED_BACK (by decide) hD (fun i H' x hx s1 N hN=>?_) fun H' s1 h1=>?_⟩
  ·obtain ⟨hi,rfl⟩:=Xx (l:=[0,13,10,7,4,1,14,11,8,5,2,15,12,9,6,3]) hx
   have hlt:=hb.lt
   have h16:[0,13,10,7,4,1,14,11,8,5,2,15,12,9,6,3].getD i 0<l.length:=by
    rw[hb.len]
    exact Yo (m:=16) (by decide) (by decide)
   have h256:l.getD ([0,13,10,7,4,1,14,11,8,5,2,15,12,9,6,3].getD i 0) 0<256:=Yo hlt (by decide)
   refine ⟨_,rfl,_,rfl,rix _ (s1 _ _ ha) rfl h16 (rixT _ (T.q_SWAPPED_BACK _) rfl h256 ?_)⟩
   have:=hN H' (Same.refl _)
   rw[backN_inv h256] at this
   exact this
  ·refine q D H' s1 hD ?_
   rw[h1,unshifted_map _ hb.len]
   rfl
def sp_mixed_back :Sp:=fun vs H Q _=>∃(a:Addr) (l:List Nat),vs=[.ref a]∧H a=some (.lst (nats l))∧B16 l∧∀r H',Same H H'→H r=none→H' r=some (.lst (nats (Md33.mix [14,11,13,9] l)))→Q (.ref r) H'
theorem ok_mixed_back (T:Txt K mg t):OkF P w K mg base 3 "mixed_back" ["state"] (sp_mixed_back ):=by
 refine okF T.d_mixed_back Yi (fun vs H Q E h=>?_) (fun f cdv A outer s H vs Q E hr h=>?_)
 ·obtain ⟨a,l,rfl,ha,hb,q⟩:=h
  rfl
 ·obtain ⟨a,l,rfl,ha,hb,q⟩:=h
  refine ⟨_,(Zb (Zo (i:=1) Yi.nd rfl (Or.inl rfl) (Zz Zd))
   (Zb (Y2 PassesOwn.never rfl (Xw rfl T.n_range (Za Zf (Za (pgi rfl T.c_BLOCK_BYTES_cipher) (Za Zf Zd)))) (Z3 (i:=2) Yi.nd rfl (Or.inl rfl)) (Zb (Zo (i:=3) Yi.nd rfl (Or.inl rfl) (Zx (Zl (K:=K) rfl) (pv 0) (pv 2) (fun _ _=>rfl)))
   (Zb (Zo (i:=4) Yi.nd rfl (Or.inl rfl) (Zx (Zl (K:=K) rfl) (pv 0) (Zm Z5 (pv 2) Zf) (fun _ _=>rfl)))
   (Zb (Zo (i:=5) Yi.nd rfl (Or.inl rfl) (Zx (Zl (K:=K) rfl) (pv 0) (Zm Z5 (pv 2) Zf) (fun _ _=>rfl)))
   (Zb (Zo (i:=6) Yi.nd rfl (Or.inl rfl) (Zx (Zl (K:=K) rfl) (pv 0) (Zm Z5 (pv 2) Zf) (fun _ _=>rfl)))
   (Zb (Zo (i:=7) Yi.nd rfl (Or.inl rfl) (pf (Xb T) hr (Za (pf (Xb T) hr (Za (Zm Yc (pv 3) (pv 5)) Zd)) Zd)))
   (Zb (Zo (i:=8) Yi.nd rfl (Or.inl rfl) (pf (Xb T) hr (Za (pf (Xb T) hr (Za (Zm Yc (pv 4) (pv 6)) Zd)) Zd)))
   (Ze (Z6 (Yu (K:=K) rfl PySem.F.plainAttrs_list PySem.F.slot_list_extend PySem.F.type_list_extend J2 (pv 1) (Za (Zz (Za (Zm Yc (pv 3) (pv 7)) (Za (Zm Yc (pv 4) (pv 8)) (Za (Zm Yc (pv 5) (pv 7)) (Za (Zm Yc (pv 6) (pv 8)) Zd))))) Zd)))))))))))
   (Ze (Zj (pf (ok_mixed T) hr (Za (pv 1) Zd)))))),?_⟩
  refine ⟨by decide,fun p hp=>⟨0,16,4,4,rfl,⟨by decide,by decide,by decide,by decide⟩,Jj (fun i σ H2=>∃v2 v3 v4 v5 v6 v7 v8,σ=[some (.ref a),some (.ref p),v2,v3,v4,v5,v6,v7,v8]∧Same H H2∧H2 p=some (.lst (nats ((leveled l).take (4*i)))))
   ⟨none,none,none,none,none,none,none,rfl,Zk hp,Zc⟩ ?_ ?_⟩⟩
  ·rintro i σ H2 hi ⟨v2,v3,v4,v5,v6,v7,v8,rfl,s2,h2⟩
   have ha2:=s2 _ _ ha
   have hlen:=hb.len
   have hlt:∀j,l.getD j 0<256:=fun j=>Yo hb.lt (by decide)
   refine ⟨_,rfl,_,rfl,rix (4*i) ha2 (by omega) (by omega) ⟨_,rfl,_,rfl,_,_,rfl,rfl,rix (4*i+1) ha2 (by omega) (by omega) ⟨_,rfl,_,rfl,_,_,rfl,rfl,rix (4*i+2) ha2 (by omega) (by omega) ⟨_,rfl,_,rfl,_,_,rfl,rfl,rix (4*i+3) ha2 (by omega) (by omega) ?_⟩⟩⟩⟩
   have dd:∀{x y:Nat},x<256→y<256→Md33.doubled (Md33.doubled (x ^^^ y))=dbl (dbl (x ^^^ y)):=fun {x y} hx hy=>by
    rw[Xs (by rw[Xs (Zw hx hy),← Xs (Zw hx hy)];exact Jf (Zw hx hy)),Xs (Zw hx hy)]
   have d1:∀{x y:Nat},x<256→y<256→Md33.doubled (x ^^^ y)<256:=fun {x y} hx hy=>by
    rw[← Xs (Zw hx hy)];exact Jf (Zw hx hy)
   refine ⟨_,rfl,_,rfl,_,_,rfl,rfl,_,_,rfl,bx _ _,Zw (hlt _) (hlt _),_,_,rfl,rfl,d1 (hlt _) (hlt _),?_⟩
   refine ⟨_,rfl,_,rfl,_,_,rfl,rfl,_,_,rfl,bx _ _,Zw (hlt _) (hlt _),_,_,rfl,rfl,d1 (hlt _) (hlt _),?_⟩
   refine ⟨_,rfl,Yg h2,_,rfl,_,rfl,_,_,rfl,rfl,_,rfl,_,rfl,_,_,rfl,rfl,_,rfl,_,rfl,_,_,rfl,rfl,_,rfl,_,rfl,_,_,rfl,rfl,(show 4≤sizeLine by decide),fun p4 hp4=>?_⟩
   have hne:p≠p4:=Zg h2 hp4
   refine ⟨_,p4,_,_,rfl,rfl,by rw[Zn hne];exact h2,Zc,?_,?_⟩
   ·rw[List.length_map,List.length_take,leveled_length,Qt]
    show _+4≤_
    omega
   refine ⟨_,_,_,_,_,_,_,rfl,fun b o e=>?_,?_⟩
   ·have hbp:=Zg e hp
    rw[Zn hbp,Zn (Zg (s2 _ _ e) hp4)]
    exact s2 b o e
   ·rw[Zc,leveled_col l hi,Z2]
    rw[dd (hlt _) (hlt _),dd (hlt _) (hlt _)]
    simp only[bx]
    rfl
  ·rintro σ H2 ⟨v2,v3,v4,v5,v6,v7,v8,rfl,s2,h2⟩
   rw[List.take_of_length_le (by rw[leveled_length];exact Nat.le_refl _)] at h2
   refine ⟨_,rfl,p,_,rfl,h2,leveled_16 hb,fun r H3 s3 n3 e3=>?_⟩
   refine q r H3 (s2.trans s3) (s2.free n3) ?_
   rw[e3,mix_leveled hb]
def sp_open_block :Sp:=fun vs H Q _=>∃(a sc:Addr) (b k:List Nat),vs=[.ref a,.ref sc]∧H a=some (.lst (nats b))∧Rows H sc ((List.range 11).map (roundK k))∧B16 b∧B16 k∧∀r H',Same H H'→H r=none→H' r=some (.lst (nats (Md33.openBlock (Md33.wordsOf k) b)))→Q (.ref r) H'
theorem ok_open_block (T:Txt K mg t):OkF P w K mg base 4 "open_block" ["block","schedule"] (sp_open_block ):=by
 refine okF T.d_open_block J7 (fun vs H Q E h=>?_) (fun f cdv A outer s H vs Q E hr h=>?_)
 ·obtain ⟨a,sc,b,k,rfl,ha,hs,hb,hk,q⟩:=h
  rfl
 ·obtain ⟨a,sc,b,k,rfl,ha,hs,hb,hk,q⟩:=h
  refine ⟨_,(Zb (Zo (i:=2) J7.nd rfl (Or.inl rfl) (pf (ok_xor T) hr (Za (pv 0) (Za (Zx (Zl (K:=K) rfl) (pv 1) (pgi rfl T.c_LAST_TURN) (fun _ _=>rfl)) Zd))))
   (Zb (Y2 PassesOwn.never rfl (Xw rfl T.n_range (Za (Zm Jp (pgi rfl T.c_LAST_TURN) Zf) (Za Zf (Za (pe_un un_neg Zf) Zd)))) (Z3 (i:=3) J7.nd rfl (Or.inl rfl)) (Ze (Zo (i:=2) J7.nd rfl (Or.inl rfl) (pf (ok_mixed_back T) hr (Za (pf (ok_xor T) hr (Za (pf (Xn T) hr (Za (pv 2) Zd)) (Za (Zx (Zl (K:=K) rfl) (pv 1) (pv 3) (fun _ _=>rfl)) Zd))) Zd)))))
   (Ze (Zj (pf (ok_xor T) hr (Za (pf (Xn T) hr (Za (pv 2) Zd)) (Za (Zx (Zl (K:=K) rfl) (pv 1) Zf (fun _ _=>rfl)) Zd))))))),?_⟩
  have rk:∀i,i<11→((List.range 11).map (roundK k))[i]?=some (roundK k i):=fun i hi=>by rw[List.getElem?_map,List.getElem?_range hi];rfl
  refine ⟨_,rfl,_,rfl,hs.at (rk 10 (by decide)) rfl fun x0 hx0=>⟨a,x0,b,_,rfl,ha,hx0,by rw[hb.len];decide,fun r1 H1 s1 n1 e1=>?_⟩⟩
  refine ⟨_,_,rfl,rfl,_,rfl,_,_,_,9,rfl,⟨by decide,by decide,by decide,by decide⟩,Jj (fun i σ H2=>∃p v3,σ=[some (.ref a),some (.ref sc),some (.ref p),v3]∧Same H H2∧H2 p=some (.lst (nats (turnsO k b i)))) ⟨r1,none,rfl,s1,e1⟩ ?_ ?_⟩
  ·rintro i σ H2 hi ⟨p,v3,rfl,s2,h2⟩
   have ht:=Xf hk hb i
   refine ⟨_,rfl,p,_,rfl,h2,ht,fun r3 H3 s3 n3 e3=>?_⟩
   have hbk:=back_16 (Yw ht)
   refine ⟨_,rfl,_,rfl,(hs.same (s2.trans s3)).at (rk (9-i) (by omega)) (by omega) fun x hx=>⟨r3,x,_,_,rfl,e3,hx,by rw[hbk.len];decide,fun r4 H4 s4 n4 e4=>?_⟩⟩
   refine ⟨r4,_,rfl,e4,hbk.xor (hk.round (by omega)),fun r5 H5 s5 n5 e5=>?_⟩
   exact ⟨r5,_,rfl,((s2.trans s3).trans s4).trans s5,by rw[e5,turnsO_succ]⟩
  ·rintro σ H2 ⟨p,v3,rfl,s2,h2⟩
   have ht:=Xf hk hb 9
   have hbk:=back_16 (Yw ht)
   refine ⟨_,rfl,p,_,rfl,h2,ht,fun r3 H3 s3 n3 e3=>?_⟩
   refine ⟨_,rfl,(hs.same (s2.trans s3)).at (rk 0 (by decide)) rfl fun x hx=>⟨r3,x,_,_,rfl,e3,hx,by rw[hbk.len];decide,fun r5 H5 s5 n5 e5=>?_⟩⟩
   exact q r5 H5 ((s2.trans s3).trans s5) ((s2.trans s3).free n5) (by rw[e5,openBlock_eq])
theorem openFrom_succ (ws:List Md33.Bytes) (n:Nat) (s b:Md33.Bytes):Md33.openFrom ws (n+1) s b=Md33.xor (Md33.openBlock ws (b.take 16)) s++Md33.openFrom ws n (b.take 16) (b.drop 16):=rfl
def sp_open_from :Sp:=fun vs H Q _=>∃(a b sc:Addr) (s0 x k:List Nat) (n:Nat),vs=[.ref a,.ref b,.ref sc]∧H a=some (.lst (nats s0))∧H b=some (.lst (nats x))∧Rows H sc ((List.range 11).map (roundK k))∧B16 s0∧B16 k∧x.length=16*n∧n≤70000∧(∀y∈x,y<256)∧∀r H',Same H H'→H r=none→H' r=some (.lst (nats (Md33.openFrom (Md33.wordsOf k) n s0 x)))→Q (.ref r) H'
theorem ok_open_from (T:Txt K mg t):OkF P w K mg base 5 "open_from" ["start","text","schedule"] (sp_open_from ):=by
 refine okF T.d_open_from Xv (fun vs H Q E h=>?_) (fun f cdv A outer s H vs Q E hr h=>?_)
 ·obtain ⟨a,b,sc,s0,x,k,n,rfl,ha,hb,hs,h0,hk,hx,hn,hy,q⟩:=h
  rfl
 ·obtain ⟨a,b,sc,s0,x,k,n,rfl,ha,hb,hs,h0,hk,hx,hn,hy,q⟩:=h
  refine ⟨_,(Zb (Zo (i:=3) Xv.nd rfl (Or.inl rfl) (Zz Zd))
   (Zb (Zo (i:=4) Xv.nd rfl (Or.inl rfl) (pv 0))
   (Zb (Y2 PassesOwn.never rfl (Xw rfl T.n_range (Za Zf (Za (Zs (Zq (K:=K) rfl) rfl T.n_len PySem.boot_len (Za (pv 1) Zd)) (Za (pgi rfl T.c_BLOCK_BYTES_cipher) Zd)))) (Z3 (i:=5) Xv.nd rfl (Or.inl rfl)) (Zb (Zo (i:=6) Xv.nd rfl (Or.inl rfl) (Z1 (Z0 (K:=K) rfl) (pv 1) (Zv (pv 5)) (Zv (Zm Z5 (pv 5) (pgi rfl T.c_BLOCK_BYTES_cipher)))))
   (Zb (Z6 (Yu (K:=K) rfl PySem.F.plainAttrs_list PySem.F.slot_list_extend PySem.F.type_list_extend J2 (pv 3) (Za (pf (ok_xor T) hr (Za (pf (ok_open_block T) hr (Za (pv 6) (Za (pv 2) Zd))) (Za (pv 4) Zd))) Zd)))
   (Ze (Zo (i:=4) Xv.nd rfl (Or.inl rfl) (pv 6))))))
   (Ze (Zj (pv 3)))))),?_⟩
  refine ⟨by decide,fun p hp=>?_⟩
  obtain ⟨u0,v0⟩:=Zp (o:=.lst []) hp
  generalize upd H p (HO.lst [])=G0 at *
  refine ⟨_,rfl,_,rfl,b,_,rfl,.inl (SqL.of (u0 _ _ hb)),_,_,_,n,rfl,?_,Jj (fun i σ H2=>∃(pb:Addr) (v5 v6:Option V) (out sb:List Nat),σ=[some (.ref a),some (.ref b),some (.ref sc),some (.ref p),some (.ref pb),v5,v6]∧Same H H2∧H2 p=some (.lst (nats out))∧H2 pb=some (.lst (nats sb))∧pb≠p∧B16 sb∧out.length=16*i ∧
   out++Md33.openFrom (Md33.wordsOf k) (n-i) sb (x.drop (16*i))=Md33.openFrom (Md33.wordsOf k) n s0 x) ⟨a,none,none,[],s0,rfl,u0,v0,u0 _ _ ha,Zg ha hp,h0,rfl,by simp⟩ ?_ ?_⟩
  ·rw[Zh,hx]
   exact rgc (c:=16) (n:=n) (by decide) (by decide) (by omega) rfl
  ·rintro i σ H2 hi ⟨pb,v5,v6,out,sb,rfl,s2,hp2,hb2,hne,h16,hol,he⟩
   refine ⟨_,rfl,_,rfl,_,rfl,_,rfl,_,_,rfl,rfl,_,rfl,b,_,rfl,SqL.of (s2 _ _ hb),fun pc hc=>?_⟩
   have e1:(0:Int)+(i:Nat)*16=((16*i:Nat):Int):=by omega
   have e2:(0:Int)+(i:Nat)*16+16=((16*i+16:Nat):Int):=by omega
   rw[e2,e1,cut_n (by omega),show 16*i+16-16*i=16 by omega]
   obtain ⟨u3,v3⟩:=Zp (o:=.lst (nats ((x.drop (16*i)).take 16))) hc
   generalize upd H2 pc (HO.lst (nats ((x.drop (16*i)).take 16)))=G3 at *
   have hb16:B16 ((x.drop (16*i)).take 16):=⟨by rw[List.length_take,List.length_drop];omega,fun y hy'=>hy y (List.mem_of_mem_drop (List.mem_of_mem_take hy'))⟩
   refine ⟨_,rfl,Yg (u3 _ _ hp2),_,rfl,_,rfl,pc,sc,_,k,rfl,v3,hs.same (s2.trans u3),hb16,hk,fun r4 H4 s4 n4 e4=>?_⟩
   have ho:=openBlock_16 hk hb16
   refine ⟨_,rfl,r4,pb,_,_,rfl,e4,s4 _ _ (u3 _ _ hb2),by rw[ho.len];decide,fun r5 H5 s5 n5 e5=>?_⟩
   have hsb:=ho.xor h16
   have s25:=(u3.trans s4).trans s5
   refine ⟨_,_,_,_,rfl,rfl,s25 _ _ hp2,e5,?_,?_⟩
   ·rw[Zh,Zh,hol,hsb.len,Qt];omega
   have hcp:pc≠p:=fun e=>by rw[e,hp2] at hc;cases hc
   refine ⟨_,rfl,pc,_,_,out++Md33.xor (Md33.openBlock (Md33.wordsOf k) ((x.drop (16*i)).take 16)) sb,(x.drop (16*i)).take 16,rfl,fun c o e=>?_,?_,?_,hcp,hb16,?_,?_⟩
   ·rw[Zn (Zg e hp)];exact s25 _ _ (s2 _ _ e)
   ·rw[Zc,Z2]
   ·rw[Zn hcp];exact s5 _ _ (s4 _ _ v3)
   ·rw[List.length_append,hol,hsb.len];omega
   ·rw[← he,List.append_assoc,show n-i=(n-(i+1))+1 by omega,openFrom_succ,List.drop_drop,show 16*i+16=16*(i+1) by omega]
  ·rintro σ H2 ⟨pb,v5,v6,out,sb,rfl,s2,hp2,hb2,hne,h16,hol,he⟩
   refine ⟨_,rfl,q p _ s2 hp ?_⟩
   rw[Nat.sub_self] at he
   have e:out=Md33.openFrom (Md33.wordsOf k) n s0 x:=by
    rw[← he]
    show out=out++[]
    rw[List.append_nil]
   rw[hp2,e]
end
theorem ofLow_cons (x:Nat) (l:List Nat):Md33.ofLow (x::l)=x+256*Md33.ofLow l:=rfl
def Sched (H:Hp) (v:V):Option (List Nat)→Prop
 | none=>v=.non
 | some k=>∃sc,v=.ref sc∧Rows H sc ((List.range 11).map (roundK k))∧B16 k
theorem Sched.same {H H':Hp} {v:V} {key:Option (List Nat)} (h:Sched H v key) (s:Same H H'):Sched H' v key:=by
 cases key with
 | none=>exact h
 | some k=>obtain ⟨sc,e,r,b⟩:=h;exact ⟨sc,e,r.same s,b⟩
def mk8 (s:Nat):List Nat:=[66,79,79,75,1,s,0,0]
def textOf (key:Option (List Nat)) (before:List Nat) (number:Nat) (p:List Nat):List Nat:=Md33.low 4 p.length++(Md33.low 4 number++Md33.shutText key before (Md33.filled p))
def entryB (key:Option (List Nat)) (before:List Nat) (number:Nat) (p:List Nat):List Nat:=textOf key before number p++Md33.sum (before++textOf key before number p)
section
variable {P:Program} {w:World} {K:PySem.W.Frag} {mg:Str→Option Value} {base:Heap} {t:Adr}
def sp_low_first :Sp:=fun vs H Q _=>∃(z y:Int) (n c:Nat),vs=[.int z,.int y]∧z=(n:Int)∧y=(c:Int)∧c≤64∧∀r H',Same H H'→H r=none→H' r=some (.lst (nats (Md33.low c n)))→Q (.ref r) H'
theorem ok_low_first (T:Txt K mg t):OkF P w K mg base 1 "low_first" ["number","count"] (sp_low_first ):=by
 refine okF T.d_low_first sc_low_first (fun vs H Q E h=>?_) (fun f cdv A outer s H vs Q E hr h=>?_)
 ·obtain ⟨_,_,n,c,rfl,rfl,rfl,hc,q⟩:=h
  rfl
 ·obtain ⟨_,_,n,c,rfl,rfl,rfl,hc,q⟩:=h
  refine ⟨_,(Ze (Zj (pe_lc rfl sc_low_first.nd (pi_range1 rfl T.n_range (Za (pv 1) Zd)) (Xt (N:=["number","count","place"]) (sc:=Qs s_low_first) (own:=[("place",2)]) (by decide +kernel)) (fun _ _ _ _ _=>(Z3 (i:=2) sc_low_first.nd rfl (Or.inl rfl))) (fun _ _ _ _ _=>pts_nil) (fun _ _ _ _ _=>(Zm op_and (Zm op_shr (pv 0) (Zm op_mul Zf (pv 2))) Zf))))),?_⟩
  refine ⟨_,rfl,(c:Int),rfl,by omega,by omega,fun D hD=>lc_rng (n:=(c:Int).toNat) (fun i=>nV (n/256^i%256)) (by rw[Int.toNat_natCast];exact sz20 (by omega)) hD (fun i H' hi s1 N hN=>?_) fun H' s1 h1=>?_⟩
  ·refine ⟨_,rfl,_,rfl,_,_,rfl,rfl,.inl ⟨by decide,by decide⟩,_,_,rfl,rfl,by omega,_,_,rfl,rfl,?_⟩
   refine to (hN _ (Same.refl _)) ?_
   rw[show (8*((0:Int)+(i:Nat))).toNat=8*i by omega,sr,show (255:Int)=((255:Nat):Int) from rfl,ba,and_mask8,pow256]
  ·refine q D H' s1 hD ?_
   rw[h1,Int.toNat_natCast,nats,Md33.low,List.map_map]
   rfl
def sp_from_low_first :Sp:=fun vs H Q _=>∃(a:Addr) (l:List Nat),vs=[.ref a]∧H a=some (.lst (nats l))∧Q (nV (Md33.ofLow l)) H
theorem Js (T:Txt K mg t):OkF P w K mg base 1 "from_low_first" ["data"] (sp_from_low_first ):=by
 refine okF T.d_from_low_first Xl (fun vs H Q E h=>?_) (fun f cdv A outer s H vs Q E hr h=>?_)
 ·obtain ⟨a,l,rfl,ha,q⟩:=h
  rfl
 ·obtain ⟨a,l,rfl,ha,q⟩:=h
  refine ⟨_,(Zb (Zo (i:=1) Xl.nd rfl (Or.inl rfl) Zf)
   (Zb (Y2 PassesOwn.never rfl (pi_reversed rfl T.n_reversed (Za (pv 0) Zd)) (Z3 (i:=2) Xl.nd rfl (Or.inl rfl)) (Ze (Zo (i:=1) Xl.nd rfl (Or.inl rfl) (Zm Z5 (Zm op_mul (pv 1) Zf) (pv 2)))))
   (Ze (Zj (pv 1))))),?_⟩
  refine ⟨_,rfl,a,nats l,rfl,SqL.of ha,for_rev (xs:=nats l) (fun i σ H2=>H2=H∧∃v2,σ=[some (.ref a),some (nV (Md33.ofLow (l.drop (l.length-i)))),v2]) ⟨rfl,none,?_⟩ (fun i σ H2 _ ⟨e,_⟩=>by rw[e];exact SqL.of ha) ?_ ?_⟩
  ·rw[Nat.sub_zero,List.drop_of_length_le (Nat.le_refl _)];rfl
  ·rintro i x σ H2 hi hx ⟨rfl,v2,rfl⟩
   rw[Zh] at hi hx
   obtain ⟨hj,rfl⟩:=Xx hx
   refine ⟨_,rfl,_,_,rfl,rfl,.inr ⟨by decide,by decide⟩,_,rfl,_,_,rfl,rfl,?_⟩
   refine ⟨rfl,some (nV (l.getD (l.length-1-i) 0)),?_⟩
   have e:l.drop (l.length-(i+1))=l.getD (l.length-1-i) 0::l.drop (l.length-i):=by
    rw[show l.length-(i+1)=l.length-1-i by omega,List.drop_eq_getElem_cons hj,show l.length-1-i+1=l.length-i by omega]
    congr 1
    rw[List.getD_eq_getElem?_getD,List.getElem?_eq_getElem hj];rfl
   rw[e,ofLow_cons]
   show ([some (V.ref a),some (V.int _),some (nV _)]:St)=_
   rw[show ((Md33.ofLow (l.drop (l.length-i)):Nat):Int)*256+((l.getD (l.length-1-i) 0:Nat):Int)=((l.getD (l.length-1-i) 0+256*Md33.ofLow (l.drop (l.length-i)):Nat):Int) by omega]
  ·rintro σ H2 ⟨rfl,v2,rfl⟩
   refine ⟨_,rfl,?_⟩
   rw[Zh,Nat.sub_self,List.drop_zero]
   exact q
def sp_head_front :Sp:=fun vs H Q _=>∃(z:Int) (s:Nat),vs=[.int z]∧z=(s:Int)∧∀r H',Same H H'→H r=none→H' r=some (.lst (nats (mk8 s)))→Q (.ref r) H'
theorem ok_head_front (T:Txt K mg t):OkF P w K mg base 1 "head_front" ["shut"] (sp_head_front ):=by
 refine okF T.d_head_front sc_head_front (fun vs H Q E h=>?_) (fun f cdv A outer s H vs Q E hr h=>?_)
 ·obtain ⟨_,s,rfl,rfl,q⟩:=h
  rfl
 ·obtain ⟨_,s,rfl,rfl,q⟩:=h
  refine ⟨_,(Ze (Zj (Zz (Za Zf (Za Zf (Za Zf (Za Zf (Za Zf (Za (pv 0) (Za Zf (Za Zf Zd))))))))))),?_⟩
  refine ⟨_,rfl,(show 8≤sizeLine by decide),fun p hp=>q p _ (Zk hp) hp ?_⟩
  rw[Zc]
  rfl
def sp_head_bytes :Sp:=fun vs H Q _=>∃(z:Int) (s:Nat) (a b:Addr) (salt key:List Nat),vs=[.int z,.ref a,.ref b]∧z=(s:Int)∧s<256∧H a=some (.lst (nats salt))∧H b=some (.lst (nats key))∧salt.length≤1000∧key.length≤1000∧(∀x∈salt,x<256)∧(∀x∈key,x<256) ∧
 ∀r H',Same H H'→H r=none→H' r=some (.lst (nats ((mk8 s++salt)++Md33.sum ((mk8 s++salt)++key))))→Q (.ref r) H'
theorem ok_head_bytes (T:Txt K mg t):OkF P w K mg base 4 "head_bytes" ["shut","salt","key"] (sp_head_bytes ):=by
 refine okF T.d_head_bytes sc_head_bytes (fun vs H Q E h=>?_) (fun f cdv A outer s H vs Q E hr h=>?_)
 ·obtain ⟨_,s,a,b,salt,key,rfl,rfl,hs,ha,hb,hsl,hkl,hsb,hkb,q⟩:=h
  rfl
 ·obtain ⟨_,s,a,b,salt,key,rfl,rfl,hs,ha,hb,hsl,hkl,hsb,hkb,q⟩:=h
  refine ⟨_,(Zb (Zo (i:=3) sc_head_bytes.nd rfl (Or.inl rfl) (Zm Yl (pf (ok_head_front T) hr (Za (pv 0) Zd)) (pv 1)))
   (Ze (Zj (Zm Yl (pv 3) (pf (ok_sum_of T) hr (Za (Zm Yl (pv 3) (pv 2)) Zd)))))),?_⟩
  refine ⟨_,rfl,_,s,rfl,rfl,fun p1 H1 s1 n1 e1=>?_⟩
  refine ⟨_,rfl,rcat e1 (s1 _ _ ha) (by rw[Zh,Zh];show 8+_≤_;rw[Qt];omega) fun p2 h2=>?_⟩
  rw[← Z2]
  obtain ⟨s2,e2⟩:=Zp (o:=.lst (nats (mk8 s++salt))) h2
  generalize upd H1 p2 (HO.lst (nats (mk8 s++salt)))=G2 at *
  have hl8:(mk8 s).length=8:=rfl
  refine ⟨_,rfl,_,rfl,_,rfl,rcat e2 (s2 _ _ (s1 _ _ hb)) (by rw[Zh,Zh,List.length_append,hl8,Qt];omega) fun p3 h3=>?_⟩
  rw[← Z2]
  obtain ⟨s3,e3⟩:=Zp (o:=.lst (nats (mk8 s++salt++key))) h3
  generalize upd G2 p3 (HO.lst (nats (mk8 s++salt++key)))=G3 at *
  refine ⟨p3,_,rfl,e3,by rw[List.length_append,List.length_append,hl8];omega,fun x hx=>?_,fun p4 H4 s4 n4 e4=>?_⟩
  ·simp only[List.mem_append] at hx
   rcases hx with (hx|hx)|hx
   ·simp only[mk8,List.mem_cons,List.not_mem_nil,or_false] at hx
    rcases hx with rfl|rfl|rfl|rfl|rfl|rfl|rfl|rfl<;>first|decide|exact hs
   ·exact hsb x hx
   ·exact hkb x hx
  refine rcat (s4 _ _ (s3 _ _ e2)) e4 (by rw[Zh,Zh,List.length_append,hl8,Xo,Qt];omega) fun p5 h5=>?_
  rw[← Z2]
  have S:=((s1.trans s2).trans s3).trans s4
  exact q p5 _ (S.trans (Zk h5)) (S.free h5) Zc
def sp_begins_as_head :Sp:=fun vs H Q _=>∃(a:Addr) (z:Int) (l:List Nat) (s:Nat),vs=[.ref a,.int z]∧z=(s:Int)∧H a=some (.lst (nats l))∧∀H',Same H H'→Q (.bl (decide (44≤l.length∧l.take 8=mk8 s))) H'
theorem ok_begins_as_head (T:Txt K mg t):OkF P w K mg base 2 "begins_as_head" ["data","shut"] (sp_begins_as_head ):=by
 refine okF T.d_begins_as_head sc_begins_as_head (fun vs H Q E h=>?_) (fun f cdv A outer s H vs Q E hr h=>?_)
 ·obtain ⟨a,_,l,s,rfl,rfl,ha,q⟩:=h
  rfl
 ·obtain ⟨a,_,l,s,rfl,rfl,ha,q⟩:=h
  refine ⟨_,(Ze (Zj (pe_and (pe_cmpR op_ge (Zs (Zq (K:=K) rfl) rfl T.n_len PySem.boot_len (Za (pv 0) Zd)) (pgi rfl T.c_HEAD_BYTES) (Qv _)) (pe_one (pe_cmpR (op_eqDK (K:=K) rfl (hv_of hr)) (Z1 (Z0 (K:=K) rfl) (pv 0) Yt (Zv (pgi rfl T.c_SALT_BEGIN))) (pf (ok_head_front T) hr (Za (pv 1) Zd)) (Qv _)))))),?_⟩
  refine ⟨_,rfl,a,_,rfl,.inl (SqL.of ha),_,_,rfl,rfl,_,rfl,ite2 (fun h=>?_) fun h=>?_⟩
  ·rw[Zh] at h
   have h44:44≤l.length:=by have:=of_decide_eq_true h;omega
   refine ⟨_,rfl,_,rfl,a,_,rfl,SqL.of ha,fun p1 h1=>?_⟩
   rw[show (some (8:Int))=some ((8:Nat):Int) from rfl,cut_to]
   obtain ⟨s1,e1⟩:=Zp (o:=.lst (nats (l.take 8))) h1
   generalize upd H p1 (HO.lst (nats (l.take 8)))=G1 at *
   refine ⟨_,rfl,_,s,rfl,rfl,fun p2 H2 s2 n2 e2=>req (s2 _ _ e1) e2 ?_⟩
   have:=q H2 (s1.trans s2)
   rw[show decide (44≤l.length∧l.take 8=mk8 s)=decide (l.take 8=mk8 s) by simp[h44]] at this
   exact this
  ·rw[Zh] at h
   have h44:¬ 44≤l.length:=fun z=>h (decide_eq_true (by omega))
   have:=q H (Same.refl _)
   rw[show decide (44≤l.length∧l.take 8=mk8 s)=false by simp[h44]] at this
   exact this
def sp_salt_of :Sp:=fun vs H Q _=>∃(a:Addr) (l:List Nat),vs=[.ref a]∧H a=some (.lst (nats l))∧∀r H',Same H H'→H r=none→H' r=some (.lst (nats ((l.drop 8).take 16)))→Q (.ref r) H'
theorem ok_salt_of (T:Txt K mg t):OkF P w K mg base 1 "salt_of" ["head"] (sp_salt_of ):=by
 refine okF T.d_salt_of sc_salt_of (fun vs H Q E h=>?_) (fun f cdv A outer s H vs Q E hr h=>?_)
 ·obtain ⟨a,l,rfl,ha,q⟩:=h
  rfl
 ·obtain ⟨a,l,rfl,ha,q⟩:=h
  refine ⟨_,(Ze (Zj (Z1 (Z0 (K:=K) rfl) (pv 0) (Zv (pgi rfl T.c_SALT_BEGIN)) (Zv (pgi rfl T.c_SALT_END))))),?_⟩
  refine ⟨_,rfl,_,rfl,_,rfl,a,_,rfl,SqL.of ha,fun p hp=>?_⟩
  rw[show (some (8:Int))=some ((8:Nat):Int) from rfl,show (some (24:Int))=some ((24:Nat):Int) from rfl,cut_nn]
  exact q p _ (Zk hp) hp Zc
def sp_put_text :Sp:=fun vs H Q _=>∃(z:Int) (kind:Nat) (a b:Addr) (name body:List Nat),vs=[.int z,.ref a,.ref b]∧z=(kind:Int)∧H a=some (.lst (nats name))∧H b=some (.lst (nats body))∧name.length≤1000∧body.length≤100000∧∀r H',Same H H'→H r=none→H' r=some (.lst (nats (1::kind::name.length::(name++body))))→Q (.ref r) H'
theorem ok_put_text (T:Txt K mg t):OkF P w K mg base 1 "put_text" ["kind","name","body"] (sp_put_text ):=by
 refine okF T.d_put_text sc_put_text (fun vs H Q E h=>?_) (fun f cdv A outer s H vs Q E hr h=>?_)
 ·obtain ⟨_,kind,a,b,name,body,rfl,rfl,ha,hb,hnl,hbl,q⟩:=h
  rfl
 ·obtain ⟨_,kind,a,b,name,body,rfl,rfl,ha,hb,hnl,hbl,q⟩:=h
  refine ⟨_,(Ze (Zj (Zm Yl (Zm Yl (Zz (Za (pgi rfl T.c_PUT_layout) (Za (pv 0) (Za (Zs (Zq (K:=K) rfl) rfl T.n_len PySem.boot_len (Za (pv 1) Zd)) Zd)))) (pv 1)) (pv 2)))),?_⟩
  refine ⟨_,rfl,_,rfl,a,_,rfl,.inl (SqL.of ha),(show 3≤sizeLine by decide),fun p1 h1=>?_⟩
  rw[Zh]
  obtain ⟨s1,e1⟩:=Zp (o:=.lst [V.int 1,V.int kind,V.int name.length]) h1
  refine ⟨_,rfl,rcat e1 (s1 _ _ ha) (by rw[Zh];show 3+_≤_;rw[Qt];omega) fun p2 h2=>?_⟩
  obtain ⟨s2,e2⟩:=Zp (o:=.lst ([V.int 1,V.int kind,V.int name.length]++nats name)) h2
  refine ⟨_,rfl,rcat e2 (s2 _ _ (s1 _ _ hb)) (by rw[Zh,List.length_append,Zh];show 3+_+_≤_;rw[Qt];omega) fun p3 h3=>?_⟩
  refine q p3 _ ((s1.trans s2).trans (Zk h3)) ((s1.trans s2).free h3) ?_
  rw[Zc]
  congr 2
  show _=nV 1::nV kind::nV name.length::nats (name++body)
  rw[Z2]
  rfl
def sp_drop_text :Sp:=fun vs H Q _=>∃(a:Addr) (name:List Nat),vs=[.ref a]∧H a=some (.lst (nats name))∧name.length≤1000∧∀r H',Same H H'→H r=none→H' r=some (.lst (nats (2::name.length::name)))→Q (.ref r) H'
theorem ok_drop_text (T:Txt K mg t):OkF P w K mg base 1 "drop_text" ["name"] (sp_drop_text ):=by
 refine okF T.d_drop_text sc_drop_text (fun vs H Q E h=>?_) (fun f cdv A outer s H vs Q E hr h=>?_)
 ·obtain ⟨a,name,rfl,ha,hnl,q⟩:=h
  rfl
 ·obtain ⟨a,name,rfl,ha,hnl,q⟩:=h
  refine ⟨_,(Ze (Zj (Zm Yl (Zz (Za (pgi rfl T.c_DROP_layout) (Za (Zs (Zq (K:=K) rfl) rfl T.n_len PySem.boot_len (Za (pv 0) Zd)) Zd))) (pv 0)))),?_⟩
  refine ⟨_,rfl,a,_,rfl,.inl (SqL.of ha),(show 2≤sizeLine by decide),fun p1 h1=>?_⟩
  rw[Zh]
  obtain ⟨s1,e1⟩:=Zp (o:=.lst [V.int 2,V.int name.length]) h1
  refine ⟨_,rfl,rcat e1 (s1 _ _ ha) (by rw[Zh];show 2+_≤_;rw[Qt];omega) fun p2 h2=>?_⟩
  exact q p2 _ (s1.trans (Zk h2)) (s1.free h2) Zc
def sp_back_text :Sp:=fun vs H Q _=>∃(z:Int) (n:Nat),vs=[.int z]∧z=(n:Int)∧∀r H',Same H H'→H r=none→H' r=some (.lst (nats (3::Md33.low 4 n)))→Q (.ref r) H'
theorem ok_back_text (T:Txt K mg t):OkF P w K mg base 2 "back_text" ["number"] (sp_back_text ):=by
 refine okF T.d_back_text sc_back_text (fun vs H Q E h=>?_) (fun f cdv A outer s H vs Q E hr h=>?_)
 ·obtain ⟨_,n,rfl,rfl,q⟩:=h
  rfl
 ·obtain ⟨_,n,rfl,rfl,q⟩:=h
  refine ⟨_,(Ze (Zj (Zm Yl (Zz (Za (pgi rfl T.c_BACK_layout) Zd)) (pf (ok_low_first T) hr (Za (pv 0) (Za Zf Zd)))))),?_⟩
  refine ⟨(show 1≤sizeLine by decide),fun p1 h1=>?_⟩
  obtain ⟨s1,e1⟩:=Zp (o:=.lst [V.int 3]) h1
  refine ⟨_,rfl,_,_,n,4,rfl,rfl,rfl,by decide,fun p2 H2 s2 n2 e2=>?_⟩
  refine rcat (s2 _ _ e1) e2 (by rw[Zh,Zy];decide) fun p3 h3=>?_
  exact q p3 _ ((s1.trans s2).trans (Zk h3)) ((s1.trans s2).free h3) Zc
def sp_blocks_length :Sp:=fun vs H Q _=>∃(z:Int) (n:Nat),vs=[.int z]∧z=(n:Int)∧n≤2^40∧Q (nV (16*Md33.blocks n)) H
theorem ok_blocks_length (T:Txt K mg t):OkF P w K mg base 1 "blocks_length" ["plain_length"] (sp_blocks_length ):=by
 refine okF T.d_blocks_length sc_blocks_length (fun vs H Q E h=>?_) (fun f cdv A outer s H vs Q E hr h=>?_)
 ·obtain ⟨_,n,rfl,rfl,hn,q⟩:=h
  rfl
 ·obtain ⟨_,n,rfl,rfl,hn,q⟩:=h
  refine ⟨_,(Ze (Zj (Zm op_mul (Zm op_fdiv (Zm Jp (Zm Z5 (pv 0) (pgi rfl T.c_BLOCK_BYTES_cipher)) Zf) (pgi rfl T.c_BLOCK_BYTES_cipher)) (pgi rfl T.c_BLOCK_BYTES_cipher)))),?_⟩
  refine ⟨_,rfl,_,_,rfl,rfl,_,_,rfl,rfl,_,_,rfl,rfl,⟨by decide,by decide⟩,_,_,rfl,rfl,.inr ⟨by decide,by decide⟩,to q ?_⟩
  unfold Md33.blocks
  omega
def sp_entry_length :Sp:=fun vs H Q _=>∃(z:Int) (n:Nat),vs=[.int z]∧z=(n:Int)∧n≤2^40∧Q (nV (Qu n)) H
theorem ok_entry_length (T:Txt K mg t):OkF P w K mg base 2 "entry_length" ["plain_length"] (sp_entry_length ):=by
 refine okF T.d_entry_length sc_entry_length (fun vs H Q E h=>?_) (fun f cdv A outer s H vs Q E hr h=>?_)
 ·obtain ⟨_,n,rfl,rfl,hn,q⟩:=h
  rfl
 ·obtain ⟨_,n,rfl,rfl,hn,q⟩:=h
  refine ⟨_,(Ze (Zj (Zm Z5 (Zm Z5 (pgi rfl T.c_FRONT_BYTES) (pf (ok_blocks_length T) hr (Za (pv 0) Zd))) (pgi rfl T.c_SUM_BYTES)))),?_⟩
  refine ⟨_,rfl,_,n,rfl,rfl,hn,_,_,rfl,rfl,_,_,rfl,rfl,to q ?_⟩
  unfold Qu
  omega
def sp_is_name_length :Sp:=fun vs H Q _=>∃(z:Int),vs=[.int z]∧Q (.bl (Md33.within z 1 64)) H
theorem Yz (T:Txt K mg t):OkF P w K mg base 1 "is_name_length" ["number"] (sp_is_name_length ):=by
 refine okF T.d_is_name_length sc_is_name_length (fun vs H Q E h=>?_) (fun f cdv A outer s H vs Q E hr h=>?_)
 ·obtain ⟨z,rfl,q⟩:=h
  rfl
 ·obtain ⟨z,rfl,q⟩:=h
  refine ⟨_,(Ze (Zj (pe_chain Xm Xm Zf (pv 0) (pgi rfl T.c_MOST_NAME_BYTES)))),?_⟩
  refine ⟨_,rfl,_,_,rfl,rfl,_,rfl,ite2 (fun h=>⟨_,_,rfl,rfl,?_⟩) fun h=>?_⟩
  ·unfold Md33.within at q
   rw[show decide ((1:Int)≤z)=true from h,Bool.true_and] at q
   exact q
  ·unfold Md33.within at q
   rw[show decide ((1:Int)≤z)=false from Bool.eq_false_iff.mpr h,Bool.false_and] at q
   exact q
theorem filled_nats (p:List Nat):nats p++List.replicate (16*Md33.blocks p.length-p.length) (V.int 0)=nats (Md33.filled p):=by
 unfold Md33.filled
 rw[Z2,nats_rep]
 rfl
def sp_entry_bytes :Sp:=fun vs H Q _=>∃(z:Int) (n:Nat) (a b:Addr) (sv:V) (p bf:List Nat) (key:Option (List Nat)),vs=[.int z,.ref a,.ref b,sv]∧z=(n:Int)∧H a=some (.lst (nats p))∧H b=some (.lst (nats bf))∧Sched H sv key∧p.length≤70000∧bf.length=20∧(∀x∈p,x<256)∧(∀x∈bf,x<256) ∧
 ∀r H',Same H H'→H r=none→H' r=some (.lst (nats (entryB key bf n p)))→Q (.ref r) H'
theorem ok_entry_bytes (T:Txt K mg t):OkF P w K mg base 5 "entry_bytes" ["number","plain","sum_before","schedule"] (sp_entry_bytes ):=by
 refine okF T.d_entry_bytes Jn (fun vs H Q E h=>?_) (fun f cdv A outer s H vs Q E hr h=>?_)
 ·obtain ⟨_,n,a,b,sv,p,bf,key,rfl,rfl,ha,hb,hsc,hpl,hbl,hp,hbf,q⟩:=h
  rfl
 ·obtain ⟨_,n,a,b,sv,p,bf,key,rfl,rfl,ha,hb,hsc,hpl,hbl,hp,hbf,q⟩:=h
  refine ⟨_,(Zb (Zo (i:=4) Jn.nd rfl (Or.inl rfl) (Zm Yl (pv 1) (Zm op_rep (Zz (Za Zf Zd)) (Zm Jp (pf (ok_blocks_length T) hr (Za (Zs (Zq (K:=K) rfl) rfl T.n_len PySem.boot_len (Za (pv 1) Zd)) Zd)) (Zs (Zq (K:=K) rfl) rfl T.n_len PySem.boot_len (Za (pv 1) Zd))))))
   (Zb (Z4 (Zu op_notN (pv 3) pe_non (Qv _)) (Ze (Zo (i:=4) Jn.nd rfl (Or.inl rfl) (pf (ok_shut_from T) hr (Za (Z1 (Z0 (K:=K) rfl) (pv 2) Yt (Zv (pgi rfl T.c_BLOCK_BYTES_cipher))) (Za (pv 4) (Za (pv 3) Zd)))))) Zr)
   (Zb (Zo (i:=5) Jn.nd rfl (Or.inl rfl) (Zm Yl (Zm Yl (pf (ok_low_first T) hr (Za (Zs (Zq (K:=K) rfl) rfl T.n_len PySem.boot_len (Za (pv 1) Zd)) (Za Zf Zd))) (pf (ok_low_first T) hr (Za (pv 0) (Za Zf Zd)))) (pv 4)))
   (Ze (Zj (Zm Yl (pv 5) (pf (ok_sum_of T) hr (Za (Zm Yl (pv 2) (pv 5)) Zd)))))))),?_⟩
  refine ⟨_,rfl,(show 1≤sizeLine by decide),fun p1 h1=>?_⟩
  obtain ⟨s1,e1⟩:=Zp (o:=.lst [V.int 0]) h1
  generalize upd H p1 (HO.lst [V.int 0])=G1 at *
  have hkb:p.length≤16*Md33.blocks p.length:=by unfold Md33.blocks;omega
  have hkb2:16*Md33.blocks p.length≤p.length+15:=by unfold Md33.blocks;omega
  refine ⟨_,rfl,a,_,rfl,.inl (SqL.of (s1 _ _ ha)),_,p.length,rfl,by rw[Zh],by omega,_,rfl,a,_,rfl,.inl (SqL.of (s1 _ _ ha)),_,_,rfl,rfl,?_⟩
  rw[Zh]
  refine ⟨p1,_,_,rfl,rfl,e1,by omega,by omega,?_,fun p2 h2=>?_⟩
  ·show 1*_≤sizeLine
   rw[Qt];omega
  rw[show (((16*Md33.blocks p.length:Nat):Int)-((p.length:Nat):Int)).toNat=16*Md33.blocks p.length-p.length by omega,rep_one]
  obtain ⟨s2,e2⟩:=Zp (o:=.lst (List.replicate (16*Md33.blocks p.length-p.length) (V.int 0))) h2
  generalize upd G1 p2 (HO.lst (List.replicate (16*Md33.blocks p.length-p.length) (V.int 0)))=G2 at *
  refine rcat (s2 _ _ (s1 _ _ ha)) e2 (by rw[Zh,List.length_replicate,Qt];omega) fun p3 h3=>?_
  rw[filled_nats]
  obtain ⟨s3,e3⟩:=Zp (o:=.lst (nats (Md33.filled p))) h3
  generalize upd G2 p3 (HO.lst (nats (Md33.filled p)))=G3 at *
  have S3:=(s1.trans s2).trans s3
  have hfl:=filled_length p
  have hfb:=filled_lt hp
  cases hk0:key with
  | none=>
   have e:sv=.non:=by rw[hk0] at hsc;exact hsc
   subst e
   refine ⟨_,rfl,rfl,_,rfl,ite2 (fun h=>absurd h (by decide)) fun h=>?_⟩
   have htl:(Md33.shutText key bf (Md33.filled p)).length=16*Md33.blocks p.length:=by rw[hk0];exact hfl
   have htb:∀x∈Md33.shutText key bf (Md33.filled p),x<256:=by rw[hk0];exact hfb
   have s4:=S3
   have e4:G3 p3=some (.lst (nats (Md33.shutText key bf (Md33.filled p)))):=by rw[hk0];exact e3
   refine ⟨_,rfl,a,_,rfl,.inl (SqL.of (s4 _ _ ha)),_,_,p.length,4,rfl,by rw[Zh],rfl,by decide,fun p5 H5 s5 n5 e5=>?_⟩
   refine ⟨_,rfl,_,_,n,4,rfl,rfl,rfl,by decide,fun p6 H6 s6 n6 e6=>?_⟩
   refine rcat (s6 _ _ e5) e6 (by rw[Zh,Zh,Zy,Zy];decide) fun p7 h7=>?_
   rw[← Z2]
   obtain ⟨s7,e7⟩:=Zp (o:=.lst (nats (Md33.low 4 p.length++Md33.low 4 n))) h7
   generalize upd H6 p7 (HO.lst (nats (Md33.low 4 p.length++Md33.low 4 n)))=G7 at *
   have S57:=(s5.trans s6).trans s7
   refine ⟨_,rfl,rcat e7 (S57 _ _ e4) (by rw[Zh,Zh,List.length_append,Zy,Zy,htl,Qt];omega) fun p8 h8=>?_⟩
   rw[← Z2,List.append_assoc]
   obtain ⟨s8,e8⟩:=Zp (o:=.lst (nats (textOf key bf n p))) h8
   have e8':upd G7 p8 (HO.lst (nats (Md33.low 4 p.length++(Md33.low 4 n++Md33.shutText key bf (Md33.filled p)))))=upd G7 p8 (HO.lst (nats (textOf key bf n p))):=rfl
   rw[e8']
   generalize upd G7 p8 (HO.lst (nats (textOf key bf n p)))=G8 at *
   have S8:=S57.trans s8
   have htx:(textOf key bf n p).length=8+16*Md33.blocks p.length:=by
    unfold textOf
    rw[List.length_append,List.length_append,Zy,Zy,htl];omega
   refine ⟨_,rfl,_,rfl,_,rfl,rcat (S8 _ _ (s4 _ _ hb)) e8 (by rw[Zh,Zh,hbl,htx,Qt];omega) fun p9 h9=>?_⟩
   rw[← Z2]
   obtain ⟨s9,e9⟩:=Zp (o:=.lst (nats (bf++textOf key bf n p))) h9
   generalize upd G8 p9 (HO.lst (nats (bf++textOf key bf n p)))=G9 at *
   refine ⟨p9,_,rfl,e9,by rw[List.length_append,hbl,htx];omega,fun x hx=>?_,fun pa Ha sa na ea=>?_⟩
   ·rcases List.mem_append.mp hx with hx|hx
    ·exact hbf x hx
    ·unfold textOf at hx
     simp only[List.mem_append] at hx
     rcases hx with hx|hx|hx
     ·exact low_lt hx
     ·exact low_lt hx
     ·exact htb x hx
   refine rcat (sa _ _ (s9 _ _ e8)) ea (by rw[Zh,Zh,htx,Xo,Qt];omega) fun pb hb'=>?_
   rw[← Z2]
   have S:=((s4.trans S8).trans s9).trans sa
   exact q pb _ (S.trans (Zk hb')) (S.free hb') Zc
  | some k=>
   rw[hk0] at hsc
   obtain ⟨sc,rfl,hR,hk⟩:=hsc
   refine ⟨_,rfl,rfl,_,rfl,ite2 (fun h=>?_) fun h=>absurd rfl h⟩
   refine ⟨_,rfl,_,rfl,b,_,rfl,SqL.of (S3 _ _ hb),fun p10 h10=>?_⟩
   rw[show (some (16:Int))=some ((16:Nat):Int) from rfl,cut_to]
   obtain ⟨s10,e10⟩:=Zp (o:=.lst (nats (bf.take 16))) h10
   generalize upd G3 p10 (HO.lst (nats (bf.take 16)))=G10 at *
   refine ⟨_,rfl,_,rfl,p10,p3,sc,_,_,k,Md33.blocks p.length,rfl,e10,s10 _ _ e3,hR.same (S3.trans s10),key16 hbf (by omega),hk,hfl,by unfold Md33.blocks;omega,hfb,fun p11 H11 s11 n11 e11=>?_⟩
   have est:Md33.shutText (some k) bf (Md33.filled p)=Md33.shutFrom (Md33.wordsOf k) (Md33.blocks p.length) (bf.take 16) (Md33.filled p):=by
    show Md33.shutFrom (Md33.wordsOf k) ((Md33.filled p).length/16) (bf.take 16) _=_
    rw[hfl,Nat.mul_div_cancel_left _ (by decide)]
   rw[← est,← hk0] at e11
   obtain ⟨htl,htb⟩:=shutText_all (key:=some k) (fun k' e=>by cases e;exact hk) hbf (by omega) hfb hfl
   rw[← hk0] at htl htb
   have s4:=(S3.trans s10).trans s11
   have e4:=e11
   refine ⟨_,rfl,a,_,rfl,.inl (SqL.of (s4 _ _ ha)),_,_,p.length,4,rfl,by rw[Zh],rfl,by decide,fun p5 H5 s5 n5 e5=>?_⟩
   refine ⟨_,rfl,_,_,n,4,rfl,rfl,rfl,by decide,fun p6 H6 s6 n6 e6=>?_⟩
   refine rcat (s6 _ _ e5) e6 (by rw[Zh,Zh,Zy,Zy];decide) fun p7 h7=>?_
   rw[← Z2]
   obtain ⟨s7,e7⟩:=Zp (o:=.lst (nats (Md33.low 4 p.length++Md33.low 4 n))) h7
   generalize upd H6 p7 (HO.lst (nats (Md33.low 4 p.length++Md33.low 4 n)))=G7 at *
   have S57:=(s5.trans s6).trans s7
   refine ⟨_,rfl,rcat e7 (S57 _ _ e4) (by rw[Zh,Zh,List.length_append,Zy,Zy,htl,Qt];omega) fun p8 h8=>?_⟩
   rw[← Z2,List.append_assoc]
   obtain ⟨s8,e8⟩:=Zp (o:=.lst (nats (textOf key bf n p))) h8
   have e8':upd G7 p8 (HO.lst (nats (Md33.low 4 p.length++(Md33.low 4 n++Md33.shutText key bf (Md33.filled p)))))=upd G7 p8 (HO.lst (nats (textOf key bf n p))):=rfl
   rw[e8']
   generalize upd G7 p8 (HO.lst (nats (textOf key bf n p)))=G8 at *
   have S8:=S57.trans s8
   have htx:(textOf key bf n p).length=8+16*Md33.blocks p.length:=by
    unfold textOf
    rw[List.length_append,List.length_append,Zy,Zy,htl];omega
   refine ⟨_,rfl,_,rfl,_,rfl,rcat (S8 _ _ (s4 _ _ hb)) e8 (by rw[Zh,Zh,hbl,htx,Qt];omega) fun p9 h9=>?_⟩
   rw[← Z2]
   obtain ⟨s9,e9⟩:=Zp (o:=.lst (nats (bf++textOf key bf n p))) h9
   generalize upd G8 p9 (HO.lst (nats (bf++textOf key bf n p)))=G9 at *
   refine ⟨p9,_,rfl,e9,by rw[List.length_append,hbl,htx];omega,fun x hx=>?_,fun pa Ha sa na ea=>?_⟩
   ·rcases List.mem_append.mp hx with hx|hx
    ·exact hbf x hx
    ·unfold textOf at hx
     simp only[List.mem_append] at hx
     rcases hx with hx|hx|hx
     ·exact low_lt hx
     ·exact low_lt hx
     ·exact htb x hx
   refine rcat (sa _ _ (s9 _ _ e8)) ea (by rw[Zh,Zh,htx,Xo,Qt];omega) fun pb hb'=>?_
   rw[← Z2]
   have S:=((s4.trans S8).trans s9).trans sa
   exact q pb _ (S.trans (Zk hb')) (S.free hb') Zc
end
section
variable {κ:Type} [DecidableEq κ]
theorem valV_mem (kvs:List (κ×V)) (k:κ):(valV kvs k).isSome=true↔k∈kvs.map (·.1):=by
 rw[← valV_any,List.any_eq_true,List.mem_map]
 constructor
 ·rintro ⟨p,hp,e⟩;exact ⟨p,hp,of_decide_eq_true e⟩
 ·rintro ⟨p,hp,e⟩;exact ⟨p,hp,decide_eq_true e⟩
theorem valV_none {kvs:List (κ×V)} {k:κ} (h:k∉kvs.map (·.1)):valV kvs k=none:=by
 cases q:valV kvs k with
 | none=>rfl
 | some x=>exact absurd ((valV_mem kvs k).mp (by rw[q];rfl)) h
theorem keys_map (kvs:List (κ×V)) (k:κ) (v:V):(kvs.map (fun kv=>if kv.1=k then (kv.1,v) else kv)).map (·.1)=kvs.map (·.1):=by
 rw[List.map_map]
 refine List.map_congr_left fun x _=>?_
 show (if x.1=k then (x.1,v) else x).1=x.1
 split<;>rfl
theorem keys_put (kvs:List (κ×V)) (k:κ) (v:V):(putK kvs k v).map (·.1)=if k∈kvs.map (·.1) then kvs.map (·.1) else kvs.map (·.1)++[k]:=by
 unfold putK
 rw[valV_any]
 by_cases h:k∈kvs.map (·.1)
 ·rw[if_pos ((valV_mem kvs k).mpr h),if_pos h,keys_map]
 ·rw[if_neg (fun z=>h ((valV_mem kvs k).mp z)),if_neg h,List.map_append];rfl
theorem keys_drop (kvs:List (κ×V)) (k:κ):(dropK kvs k).map (·.1)=(kvs.map (·.1)).filter fun j=>decide (j≠k):=by
 unfold dropK
 rw[List.filter_map];rfl
theorem valV_drop (k j:κ) (h:j≠k):∀kvs:List (κ×V),valV (dropK kvs k) j=valV kvs j
 | []=>rfl
 | p::r=>by
  have ih:=valV_drop k j h r
  unfold dropK at ih ⊢
  rw[List.filter_cons]
  by_cases e:p.1=k
  ·rw[if_neg (by simp[e]),ih,Yv (fun z=>h (z.symm.trans e))]
  ·rw[if_pos (by simp[e])]
   by_cases e2:p.1=j
   ·rw[Y4 e2,Y4 e2]
   ·rw[Yv e2,Yv e2,ih]
end
structure StdK (C:Addr→Md33.Record→Prop) (kvs:List (List Key×V)) (rs:List Md33.Record):Prop where
 ex:∃nm:List (List Nat),kvs.map (·.1)=nm.map kN∧nm.Nodup∧(∀n,n∈nm↔∃r∈rs,r.name=n)∧∀r∈rs,∃c,valV kvs (kN r.name)=some (.ref c)∧C c r
theorem StdK.mono {C D:Addr→Md33.Record→Prop} {kvs:List (List Key×V)} {rs:List Md33.Record} (h:StdK C kvs rs) (i:∀c r,C c r→D c r):StdK D kvs rs:=by
 obtain ⟨nm,h1,h2,h3,h4⟩:=h.ex
 exact ⟨nm,h1,h2,h3,fun r hr=>let ⟨c,a,b⟩:=h4 r hr;⟨c,a,i c r b⟩⟩
theorem kN_mem {nm:List (List Nat)} {n:List Nat}:kN n∈nm.map kN↔n∈nm:=by
 constructor
 ·intro h
  obtain ⟨m,hm,e⟩:=List.mem_map.mp h
  rw[← kN_inj e];exact hm
 ·exact fun h=>List.mem_map.mpr ⟨n,h,rfl⟩
theorem StdK.nil (C:Addr→Md33.Record→Prop):StdK C [] []:=⟨[],rfl,List.nodup_nil,fun n=>⟨fun h=>(by cases h),fun ⟨r,h,_⟩=>(by cases h)⟩,fun r h=>by cases h⟩
theorem StdK.put {C:Addr→Md33.Record→Prop} {kvs:List (List Key×V)} {rs:List Md33.Record} (h:StdK C kvs rs) (hs:Sorted rs) {c:Addr} {r:Md33.Record} (hc:C c r):StdK C (putK kvs (kN r.name) (.ref c)) (Md33.withRecord r rs):=by
 obtain ⟨nm,h1,h2,h3,h4⟩:=h.ex
 have hval:∀x∈Md33.withRecord r rs,∃d,valV (putK kvs (kN r.name) (.ref c)) (kN x.name)=some (.ref d)∧C d x:=by
  intro x hx
  rcases (Ja r hs).mp hx with e|⟨hx,hne⟩
  ·subst e
   exact ⟨c,by rw[valV_put,if_pos rfl],hc⟩
  ·obtain ⟨d,hd,hC⟩:=h4 x hx
   exact ⟨d,by rw[valV_put,if_neg (fun z=>hne (kN_inj z)),hd],hC⟩
 have hmem:∀n,(n∈nm∨n=r.name)↔∃x∈Md33.withRecord r rs,x.name=n:=by
  intro n
  constructor
  ·rintro (hn|rfl)
   ·by_cases e:n=r.name
    ·exact ⟨r,(Ja r hs).mpr (.inl rfl),e.symm⟩
    ·obtain ⟨x,hx,hxn⟩:=(h3 n).mp hn
     exact ⟨x,(Ja r hs).mpr (.inr ⟨hx,fun z=>e (hxn.symm.trans z)⟩),hxn⟩
   ·exact ⟨r,(Ja r hs).mpr (.inl rfl),rfl⟩
  ·rintro ⟨x,hx,rfl⟩
   rcases (Ja r hs).mp hx with e|⟨hx,_⟩
   ·exact .inr (by rw[e])
   ·exact .inl ((h3 _).mpr ⟨x,hx,rfl⟩)
 by_cases hin:r.name∈nm
 ·refine ⟨nm,?_,h2,fun n=>?_,hval⟩
  ·rw[keys_put,h1,if_pos (kN_mem.mpr hin)]
  ·rw[← hmem n]
   exact ⟨.inl,fun z=>z.elim id fun e=>e▸hin⟩
 ·refine ⟨nm++[r.name],?_,?_,fun n=>?_,hval⟩
  ·rw[keys_put,h1,if_neg (fun z=>hin (kN_mem.mp z)),List.map_append];rfl
  ·rw[List.nodup_append]
   exact ⟨h2,by simp,fun a ha b hb=>by rw[List.mem_singleton.mp hb];exact fun e=>hin (e▸ha)⟩
  ·rw[← hmem n,List.mem_append,List.mem_singleton]
theorem StdK.drop {C:Addr→Md33.Record→Prop} {kvs:List (List Key×V)} {rs:List Md33.Record} (h:StdK C kvs rs) (name:List Nat):StdK C (dropK kvs (kN name)) (rs.filter fun r=>r.name != name):=by
 obtain ⟨nm,h1,h2,h3,h4⟩:=h.ex
 refine ⟨nm.filter fun n=>decide (n≠name),?_,h2.filter _,fun n=>?_,fun r hr=>?_⟩
 ·rw[keys_drop,h1,List.filter_map]
  congr 1
  apply List.filter_congr
  intro n _
  show decide (kN n≠kN name)=decide (n≠name)
  by_cases e:n=name
  ·simp[e]
  ·have:kN n≠kN name:=fun z=>e (kN_inj z)
   simp[e,this]
 ·rw[List.mem_filter,h3 n]
  constructor
  ·rintro ⟨⟨r,hr,rfl⟩,hne⟩
   exact ⟨r,List.mem_filter.mpr ⟨hr,by simpa using hne⟩,rfl⟩
  ·rintro ⟨r,hr,rfl⟩
   obtain ⟨hr,hne⟩:=List.mem_filter.mp hr
   exact ⟨⟨r,hr,rfl⟩,by simpa using hne⟩
 ·obtain ⟨hr,hne⟩:=List.mem_filter.mp hr
  obtain ⟨c,a,b⟩:=h4 r hr
  refine ⟨c,?_,b⟩
  rw[valV_drop _ _ (fun z=>?_),a]
  have:=kN_inj z
  simp[this] at hne
theorem StdK.none {C:Addr→Md33.Record→Prop} {kvs:List (List Key×V)} {rs:List Md33.Record} (h:StdK C kvs rs) {name:List Nat} (hn:∀r∈rs,r.name≠name):valV kvs (kN name)=none:=by
 obtain ⟨nm,h1,h2,h3,h4⟩:=h.ex
 refine valV_none ?_
 rw[h1,kN_mem,h3]
 rintro ⟨r,hr,e⟩
 exact hn r hr e
theorem StdK.at {C:Addr→Md33.Record→Prop} {kvs:List (List Key×V)} {rs:List Md33.Record} (h:StdK C kvs rs) {r:Md33.Record} (hr:r∈rs):∃c,valV kvs (kN r.name)=some (.ref c)∧C c r:=by
 obtain ⟨nm,h1,h2,h3,h4⟩:=h.ex
 exact h4 r hr
theorem names_nodup {rs:List Md33.Record} (hs:Sorted rs):(rs.map (·.name)).Nodup:=by
 refine List.pairwise_map.mpr (List.Pairwise.imp (fun {x y} h=>?_) hs)
 exact before_ne h
theorem StdK.len {C:Addr→Md33.Record→Prop} {kvs:List (List Key×V)} {rs:List Md33.Record} (h:StdK C kvs rs) (hs:Sorted rs):kvs.length=rs.length:=by
 obtain ⟨nm,h1,h2,h3,h4⟩:=h.ex
 have hp:nm.Perm (rs.map (·.name)):=(List.perm_ext_iff_of_nodup h2 (names_nodup hs)).mpr fun n=>by
  rw[h3 n,List.mem_map]
 have e1:kvs.length=nm.length:=by
  have:=congrArg List.length h1
  simpa using this
 rw[e1,hp.length_eq,List.length_map]
theorem sorted_names {nm out:List (List Nat)} {rs:List Md33.Record} (hs:Sorted rs) (h2:nm.Nodup) (h3:∀n,n∈nm↔∃r∈rs,r.name=n) (hp:out.Perm nm) (ho:out.Pairwise (fun x y=>Md33.before y x=false)):out=rs.map (·.name):=by
 have hnd:out.Nodup:=hp.nodup_iff.mpr h2
 refine names_uniq ?_ ?_ fun n=>?_
 ·refine (List.Pairwise.and ho hnd).imp fun {x y} h=>?_
  have:=before_total (a:=y) (b:=x) (fun e=>h.2 e.symm) h.1
  exact this
 ·exact List.pairwise_map.mpr hs
 ·rw[hp.mem_iff,h3 n,List.mem_map]
def entName:Md33.Entry→List Nat
 | .put _ n _=>n
 | .drop n=>n
 | .back _=>[]
def entKind:Md33.Entry→Nat
 | .put k _ _=>k
 | _=>0
def entBody:Md33.Entry→List Nat
 | .put _ _ b=>b
 | _=>[]
def entPut:Md33.Entry→Bool
 | .put _ _ _=>true
 | _=>false
def chgF (n ear:Nat) (q:Addr) (p:Bool) (k:Nat) (bd:Addr):List (Str×V):=[("number",nV n),("earlier",nV ear),("name",.ref q),("is_put",.bl p),("kind",nV k),("body",.ref bd)]
def Chg (t:Adr) (M:List Addr) (H:Hp) (c:Addr) (n ear:Nat) (e:Md33.Entry):Prop:=
 ∃dx q bd,Off M H c (.ins t.C_Change dx (chgF n ear q (entPut e) (entKind e) bd))∧Off M H q (.tup (nats (entName e)))∧Off M H bd (.lst (nats (entBody e)))
theorem Chg.keep {t:Adr} {M M' F:List Addr} {H H':Hp} {c:Addr} {n ear:Nat} {e:Md33.Entry} (h:Chg t M H c n ear e) (k:Qr F H H') (hF:∀x∈F,x∈M) (hM:∀x∈M',x∈M∨H x=none):Chg t M' H' c n ear e:=by
 obtain ⟨dx,q,bd,h1,h2,h3⟩:=h
 exact ⟨dx,q,bd,h1.keep k hF hM,h2.keep k hF hM,h3.keep k hF hM⟩
def CR (t:Adr) (M:List Addr) (H:Hp) (c:Addr) (r:Md33.Record):Prop:=∃ear,Chg t M H c r.number ear (.put r.kind r.name r.body)
theorem CR.keep {t:Adr} {M M' F:List Addr} {H H':Hp} {c:Addr} {r:Md33.Record} (h:CR t M H c r) (k:Qr F H H') (hF:∀x∈F,x∈M) (hM:∀x∈M',x∈M∨H x=none):CR t M' H' c r:=
 let ⟨ear,h⟩:=h;⟨ear,h.keep k hF hM⟩
abbrev Way:=List (Nat×Md33.Entry)
def lastR:Way→Nat
 | []=>0
 | x::_=>x.1
def WayR (G:Nat→Nat→Md33.Entry→Prop):Way→Prop
 | []=>True
 | x::r=>1≤x.1∧lastR r<x.1∧G x.1 (lastR r) x.2∧WayR G r
theorem WayR.mono {G G':Nat→Nat→Md33.Entry→Prop} (i:∀n ear e,G n ear e→G' n ear e):∀{w:Way},WayR G w→WayR G' w
 | [],_=>trivial
 | x::r,⟨h1,h2,h3,h4⟩=>⟨h1,h2,i _ _ _ h3,WayR.mono i h4⟩
def endOf (st:Md33.Stand):Nat:=lastR st.way.reverse
def lastS (sts:List Md33.Stand):Md33.Stand:=sts.getLastD {}
theorem lastS_snoc (sts:List Md33.Stand) (st:Md33.Stand):lastS (sts++[st])=st:=by
 unfold lastS
 rw[List.getLastD_eq_getLast?];simp
theorem lastS_mem {sts:List Md33.Stand} (h:sts≠[]):lastS sts∈sts:=by
 unfold lastS
 rw[List.getLastD_eq_getLast?]
 cases q:sts.getLast? with
 | none=>exact absurd (List.getLast?_eq_none_iff.mp q) h
 | some x=>exact List.mem_of_getLast? q
structure Hen (t:Adr) (M:List Addr) (H:Hp) (h en ch sd:Addr) (E:List Nat) (W:List Way):Prop where
 mh:h∈M
 me:en∈M
 mc:ch∈M
 ms:sd∈M
 pres:∀p∈M,H p≠none
 oh:∃dx,H h=some (.ins t.C_History dx [("ends",.ref en),("changes",.ref ch),("standing",.ref sd)])
 oe:H en=some (.lst (nats E))
 oc:∃kvs:List (Key×V),H ch=some (.dK kvs)∧kvs.length≤E.length∧∀w∈W,WayR (fun n ear e=>n<E.length∧∃c,valV kvs (Sum.inl (n:Int))=some (.ref c)∧Chg t M H c n ear e) w
structure Hst (t:Adr) (M:List Addr) (H:Hp) (h en ch sd:Addr) (sts:List Md33.Stand):Prop where
 hen:Hen t M H h en ch sd (sts.map endOf) (sts.map fun st=>st.way.reverse)
 ne:sts≠[]
 os:∃kvs,H sd=some (.dT kvs)∧StdK (CR t M H) kvs (lastS sts).records
theorem Yh {M F:List Addr} {H H':Hp} (h:∀p∈M,H p≠none) (k:Qr F H H') (hF:∀p∈F,H' p≠none):∀p∈M,H' p≠none:=by
 intro p hp
 by_cases e:p∈F
 ·exact hF p e
 ·cases q:H p with
  | none=>exact absurd q (h p hp)
  | some o=>rw[k p o e q];simp
theorem Hen.same {t:Adr} {M:List Addr} {H H':Hp} {h en ch sd:Addr} {E:List Nat} {W:List Way} (x:Hen t M H h en ch sd E W) (s:Same H H'):Hen t M H' h en ch sd E W:=by
 obtain ⟨dx,oh⟩:=x.oh
 obtain ⟨kvs,o1,o2,o3⟩:=x.oc
 refine ⟨x.mh,x.me,x.mc,x.ms,Yh (F:=[]) x.pres (.of_same s) (by simp),⟨dx,s _ _ oh⟩,s _ _ x.oe,kvs,s _ _ o1,o2,fun w hw=>(o3 w hw).mono fun n ear e ⟨a,c,b,d⟩=>⟨a,c,b,d.keep (F:=[]) (.of_same s) (by simp) fun y hy=>.inl hy⟩⟩
theorem Hst.same {t:Adr} {M:List Addr} {H H':Hp} {h en ch sd:Addr} {sts:List Md33.Stand} (x:Hst t M H h en ch sd sts) (s:Same H H'):Hst t M H' h en ch sd sts:=by
 obtain ⟨kvs,o1,o2⟩:=x.os
 exact ⟨x.hen.same s,x.ne,kvs,s _ _ o1,o2.mono fun c r d=>d.keep (F:=[]) (.of_same s) (by simp) fun y hy=>.inl hy⟩
theorem Z8 {M:List Addr} {H:Hp} (h:∀p∈M,H p≠none) {x:Addr} (hx:H x=none):x∉M:=fun z=>h x z hx
theorem getLast_map {α β:Type} (f:α→β) {l:List α} {d:α} {e:β} (h:l≠[]):(l.map f).getLastD e=f (l.getLastD d):=by
 rw[List.getLastD_eq_getLast?,List.getLastD_eq_getLast?,List.getLast?_map]
 cases q:l.getLast? with
 | none=>exact absurd (List.getLast?_eq_none_iff.mp q) h
 | some x=>rfl
theorem at_last {E:List Nat} {d:Nat} (h:E≠[]):atI (nats E) (-1)=some (nV (E.getLastD d)):=by
 have hl:0<E.length:=List.length_pos_iff.mpr h
 have e:ixN (nats E).length (-1)=some (E.length-1):=by
  unfold ixN
  rw[if_neg (by decide),Zh,if_pos (by omega)]
  congr 1
  omega
 unfold atI
 rw[e,Option.bind_some,List.getElem?_map,List.getLastD_eq_getLast?,List.getLast?_eq_getElem?,List.getElem?_eq_getElem (by omega)]
 rfl
theorem Je {F:List Addr} {H H':Hp} (k:Qr F H H') (hF:∀x∈F,H' x≠none) {p:Addr} (hp:H' p=none):H p=none:=by
 cases q:H p with
 | none=>rfl
 | some o=>
  by_cases e:p∈F
  ·exact absurd hp (hF p e)
  ·rw[k p o e q] at hp;cases hp
theorem rtup {σ:St} {K:PySem.W.Frag} {H:Hp} {nm:Addr} {name:List Nat} {Q:VK} {M:List Addr} (hn:H nm=some (.lst (nats name))∨Off M H nm (.tup (nats name))) (pres:∀p∈M,H p≠none)
  (k:∀q H1,Same H H1→Off M H1 q (.tup (nats name))→Q (.ref q) H1):tNil σ H fun xs H2=>rTupOf K (V.ref nm::xs) H2 Q:=by
 show rTupOf K [V.ref nm] H Q
 rcases hn with hn|hn
 ·exact ⟨nm,_,rfl,.inl ⟨SqL.of hn,fun l hl=>k l _ (Zk hl) ⟨Zc,Z8 pres hl⟩⟩⟩
 ·exact ⟨nm,_,rfl,.inr ⟨SqT.of hn.1,k nm H (Same.refl H) hn⟩⟩
theorem WayR.last {G:Nat→Nat→Md33.Entry→Prop} {m:Nat} {w:Way} (h:WayR (fun n ear e=>n<m∧G n ear e) w) (hm:0<m):lastR w<m:=by
 cases w with
 | nil=>exact hm
 | cons x r=>exact h.2.2.1.1
theorem Hen.add {t:Adr} {M:List Addr} {H H':Hp} {h en ch sd:Addr} {E:List Nat} {W:List Way} (X:Hen t M H h en ch sd E W) (hE:0<E.length) {kvs:List (Key×V)} (o1:H ch=some (.dK kvs)) {c:Addr} {e:Md33.Entry} {w:Way} (hw:w∈W)
  (k:Qr [en,ch] H H') (hen':H' en=some (.lst (nats (E++[E.length])))) (hch':H' ch=some (.dK (putK kvs (Sum.inl (E.length:Int)) (.ref c)))) (hc:Chg t M H' c E.length (lastR w) e):Hen t M H' h en ch sd (E++[E.length]) (W++[(E.length,e)::w]):=by
 obtain ⟨dx,oh⟩:=X.oh
 obtain ⟨kvs',o1',o2,o3⟩:=X.oc
 rw[o1] at o1'
 cases o1'
 have hF:∀x∈[en,ch],x∈M:=by
  intro x hx
  rcases List.mem_cons.mp hx with rfl|hx
  ·exact X.me
  ·rw[List.mem_singleton.mp hx];exact X.mc
 have hold:∀w'∈W,WayR (fun n ear e=>n<(E++[E.length]).length∧∃c',valV (putK kvs (Sum.inl (E.length:Int)) (.ref c)) (Sum.inl (n:Int))=some (.ref c')∧Chg t M H' c' n ear e) w':=fun w' hw'=>
  (o3 w' hw').mono fun n ear e ⟨a,c',b,d⟩=>by
   refine ⟨by rw[List.length_append];exact Nat.lt_add_right _ a,c',?_,d.keep k hF fun y hy=>.inl hy⟩
   rw[valV_put,if_neg (fun z=>?_),b]
   have:=Int.ofNat.inj (Sum.inl.inj z)
   omega
 refine ⟨X.mh,X.me,X.mc,X.ms,Yh X.pres k ?_,⟨dx,?_⟩,hen',_,hch',?_,?_⟩
 ·intro p hp
  rcases List.mem_cons.mp hp with rfl|hp
  ·rw[hen'];simp
  ·rw[List.mem_singleton.mp hp,hch'];simp
 ·refine k _ _ (fun z=>?_) oh
  rcases List.mem_cons.mp z with z|z
  ·rw[z,X.oe] at oh;cases oh
  ·rw[List.mem_singleton.mp z,o1] at oh;cases oh
 ·have:=length_putK kvs (Sum.inl (E.length:Int)) (V.ref c)
  rw[List.length_append]
  exact Nat.le_trans this (Nat.add_le_add_right o2 1)
 ·intro w' hw'
  rcases List.mem_append.mp hw' with hw'|hw'
  ·exact hold w' hw'
  ·rw[List.mem_singleton.mp hw']
   refine ⟨hE,(o3 w hw).last hE,⟨by rw[List.length_append];exact Nat.lt_succ_self _,c,?_,hc⟩,hold w hw⟩
   rw[valV_put,if_pos rfl]
def stPut (sts:List Md33.Stand) (kind:Nat) (name body:List Nat):Md33.Stand:=⟨Md33.withRecord ⟨name,kind,sts.length,body⟩ (lastS sts).records,(lastS sts).way++[(sts.length,.put kind name body)]⟩
def stDrop (sts:List Md33.Stand) (name:List Nat):Md33.Stand:=⟨(lastS sts).records.filter fun r=>r.name != name,(lastS sts).way++[(sts.length,.drop name)]⟩
theorem last_end {sts:List Md33.Stand} (h:sts≠[]):(sts.map endOf).getLastD 0=lastR (lastS sts).way.reverse:=getLast_map (d:={}) endOf h
section
variable {P:Program} {w:World} {K:PySem.W.Frag} {mg:Str→Option Value} {base:Heap} {t:Adr}
def sp_Change_init (t:Adr):Sp:=fun vs H Q _=>∃(x dx:Addr) (a b c d e f:V),vs=[.ref x,a,b,c,d,e,f]∧H x=some (.ins t.C_Change dx [])∧Q .non (upd H x (.ins t.C_Change dx [("number",a),("earlier",b),("name",c),("is_put",d),("kind",e),("body",f)]))
theorem ok_Change_init (T:Txt K mg t):OkC P w K mg base 1 t.C_Change "Change" ["self","number","earlier","name","is_put","kind","body"] (sp_Change_init t):=by
 refine okC T.d_Change_init sc_Change_init (fun vs H Q E h=>?_) (fun f cdv A outer s H vs Q E hr h=>?_)
 ·obtain ⟨x,dx,a,b,c,d,e,f,rfl,hx,q⟩:=h
  rfl
 ·obtain ⟨x,dx,a,b,c,d,e,f,rfl,hx,q⟩:=h
  refine ⟨_,(Zb (Ye (K:=K) rfl (pv 0) (pv 1) rfl)
   (Zb (Ye (K:=K) rfl (pv 0) (pv 2) rfl)
   (Zb (Ye (K:=K) rfl (pv 0) (pv 3) rfl)
   (Zb (Ye (K:=K) rfl (pv 0) (pv 4) rfl)
   (Zb (Ye (K:=K) rfl (pv 0) (pv 5) rfl)
   (Ze (Ye (K:=K) rfl (pv 0) (pv 6) rfl))))))),?_⟩
  refine ⟨_,rfl,_,rfl,x,_,dx,_,rfl,hx,T.k_Change,T.na_Change_number,(show 0<1000 by decide),?_⟩
  refine ⟨_,rfl,_,rfl,x,_,dx,_,rfl,Zc,T.k_Change,T.na_Change_earlier,(show 1<1000 by decide),?_⟩
  rw[Jb]
  refine ⟨_,rfl,_,rfl,x,_,dx,_,rfl,Zc,T.k_Change,T.na_Change_name,(show 2<1000 by decide),?_⟩
  rw[Jb]
  refine ⟨_,rfl,_,rfl,x,_,dx,_,rfl,Zc,T.k_Change,T.na_Change_is_put,(show 3<1000 by decide),?_⟩
  rw[Jb]
  refine ⟨_,rfl,_,rfl,x,_,dx,_,rfl,Zc,T.k_Change,T.na_Change_kind,(show 4<1000 by decide),?_⟩
  rw[Jb]
  refine ⟨_,rfl,_,rfl,x,_,dx,_,rfl,Zc,T.k_Change,T.na_Change_body,(show 5<1000 by decide),?_⟩
  rw[Jb]
  exact q
def sp_History_init (t:Adr):Sp:=fun vs H Q _=>∃(x dx:Addr),vs=[.ref x]∧H x=some (.ins t.C_History dx [])∧∀en ch sd H',Qr [x] H H'→H en=none→H ch=none→H sd=none→H' x=some (.ins t.C_History dx [("ends",.ref en),("changes",.ref ch),("standing",.ref sd)])→H' en=some (.lst (nats [0]))→H' ch=some (.dK [])→H' sd=some (.dT [])→Q .non H'
theorem ok_History_init (T:Txt K mg t):OkC P w K mg base 1 t.C_History "History" ["self"] (sp_History_init t):=by
 refine okC T.d_History_init sc_History_init (fun vs H Q E h=>?_) (fun f cdv A outer s H vs Q E hr h=>?_)
 ·obtain ⟨x,dx,rfl,hx,q⟩:=h
  rfl
 ·obtain ⟨x,dx,rfl,hx,q⟩:=h
  refine ⟨_,(Zb (Ye (K:=K) rfl (pv 0) (Zz (Za Zf Zd)) rfl)
   (Zb (Ye (K:=K) rfl (pv 0) pe_dnewK rfl)
   (Ze (Ye (K:=K) rfl (pv 0) pe_dnewT rfl)))),?_⟩
  refine ⟨(show 1≤sizeLine by decide),fun en h1=>?_⟩
  have n1:=Zg hx h1
  refine ⟨_,rfl,x,_,dx,_,rfl,(Zn n1).trans hx,T.k_History,T.na_History_ends,(show 0<1000 by decide),?_⟩
  have k1:Qr [x] H (upd (upd H en (.lst [V.int 0])) x (.ins t.C_History dx (putF "ends" (.ref en) []))):=(Qr.new h1).trans (Qr.upd (by simp))
  have x1:(upd (upd H en (.lst [V.int 0])) x (.ins t.C_History dx (putF "ends" (.ref en) []))) x=some (.ins t.C_History dx [("ends",.ref en)]):=Zc
  have e1:(upd (upd H en (.lst [V.int 0])) x (.ins t.C_History dx (putF "ends" (.ref en) []))) en=some (.lst (nats [0])):=(Zn (Ne.symm n1)).trans Zc
  generalize upd (upd H en (.lst [V.int 0])) x (.ins t.C_History dx (putF "ends" (.ref en) []))=G1 at *
  refine fun ch h2=>?_
  have n2:=Zg x1 h2
  have f2:H ch=none:=Je k1 (by intro y hy;rw[List.mem_singleton.mp hy,x1];simp) h2
  refine ⟨_,rfl,x,_,dx,_,rfl,(Zn n2).trans x1,T.k_History,T.na_History_changes,(show 1<1000 by decide),?_⟩
  have k2:Qr [x] G1 (upd (upd G1 ch (.dK [])) x (.ins t.C_History dx (putF "changes" (.ref ch) [("ends",.ref en)]))):=(Qr.new h2).trans (Qr.upd (by simp))
  have x2:(upd (upd G1 ch (.dK [])) x (.ins t.C_History dx (putF "changes" (.ref ch) [("ends",.ref en)]))) x=some (.ins t.C_History dx [("ends",.ref en),("changes",.ref ch)]):=Zc
  have e2:(upd (upd G1 ch (.dK [])) x (.ins t.C_History dx (putF "changes" (.ref ch) [("ends",.ref en)]))) en=some (.lst (nats [0])):=k2 _ _ (by simpa using Ne.symm n1) e1
  have c2:(upd (upd G1 ch (.dK [])) x (.ins t.C_History dx (putF "changes" (.ref ch) [("ends",.ref en)]))) ch=some (.dK []):=(Zn (Ne.symm n2)).trans Zc
  generalize upd (upd G1 ch (.dK [])) x (.ins t.C_History dx (putF "changes" (.ref ch) [("ends",.ref en)]))=G2 at *
  refine fun sd h3=>?_
  have n3:=Zg x2 h3
  have f3:H sd=none:=Je (k1.trans k2) (by intro y hy;rw[List.mem_singleton.mp hy,x2];simp) h3
  refine ⟨_,rfl,x,_,dx,_,rfl,(Zn n3).trans x2,T.k_History,T.na_History_standing,(show 2<1000 by decide),?_⟩
  have k3:Qr [x] G2 (upd (upd G2 sd (.dT [])) x (.ins t.C_History dx (putF "standing" (.ref sd) [("ends",.ref en),("changes",.ref ch)]))):=(Qr.new h3).trans (Qr.upd (by simp))
  refine q en ch sd _ ((k1.trans k2).trans k3) h1 f2 f3 Zc (k3 _ _ (by simpa using Ne.symm n1) e2) (k3 _ _ (by simpa using Ne.symm n2) c2) ((Zn (Ne.symm n3)).trans Zc)
def sp_History_entry_count (t:Adr):Sp:=fun vs H Q _=>∃(M:List Addr) (h en ch sd:Addr) (E:List Nat) (W:List Way),vs=[.ref h]∧Hen t M H h en ch sd E W∧0<E.length∧Q (nV (E.length-1)) H
theorem Z7 (T:Txt K mg t):OkM P w K mg base 1 t.C_History "entry_count" ["self"] (sp_History_entry_count t):=by
 refine okM T.d_History_entry_count sc_History_entry_count (fun vs H Q E h=>?_) (fun f cdv A outer s H vs Q E hr h=>?_)
 ·obtain ⟨M,h,en,ch,sd,E,W,rfl,X,hE,q⟩:=h
  rfl
 ·obtain ⟨M,h,en,ch,sd,E,W,rfl,X,hE,q⟩:=h
  refine ⟨_,(Ze (Zj (Zm Jp (Zs (Zq (K:=K) rfl) rfl T.n_len PySem.boot_len (Za (Zi (K:=K) rfl (pv 0) rfl) Zd)) Zf))),?_⟩
  obtain ⟨dx,oh⟩:=X.oh
  refine ⟨_,rfl,_,_,_,_,_,rfl,oh,T.k_History,T.na_History_ends,rfl,en,_,rfl,.inl (SqL.of X.oe),_,_,rfl,rfl,to q ?_⟩
  rw[Zh];omega
def sp_History_add_change (t:Adr):Sp:=fun vs H Q _=>∃(M:List Addr) (h en ch sd nm bd:Addr) (E:List Nat) (W:List Way) (e:Md33.Entry) (w:Way) (z:Int),vs=[.ref h,.ref nm,.bl (entPut e),.int z,.ref bd]∧z=(entKind e:Int)∧Hen t M H h en ch sd E W∧0<E.length∧E.length≤1000000∧w∈W∧E.getLastD 0=lastR w ∧
 (H nm=some (.lst (nats (entName e)))∨Off M H nm (.tup (nats (entName e))))∧Off M H bd (.lst (nats (entBody e)))∧∀c H',Qr [en,ch] H H'→Hen t M H' h en ch sd (E++[E.length]) (W++[(E.length,e)::w])→Chg t M H' c E.length (lastR w) e→Q (.ref c) H'
theorem J0 (T:Txt K mg t):OkM P w K mg base 3 t.C_History "add_change" ["self","name","is_put","kind","body"] (sp_History_add_change t):=by
 refine okM T.d_History_add_change Xh (fun vs H Q E h=>?_) (fun f cdv A outer s H vs Q E hr h=>?_)
 ·obtain ⟨M,h,en,ch,sd,nm,bd,E,W,e,w',_,rfl,rfl,X,hE,hEl,hw,hlast,hn,hb,q⟩:=h
  rfl
 ·obtain ⟨M,h,en,ch,sd,nm,bd,E,W,e,w',_,rfl,rfl,X,hE,hEl,hw,hlast,hn,hb,q⟩:=h
  refine ⟨_,(Zb (Zo (i:=5) Xh.nd rfl (Or.inl rfl) (Zs (Zq (K:=K) rfl) rfl T.n_len PySem.boot_len (Za (Zi (K:=K) rfl (pv 0) rfl) Zd)))
   (Zb (Zo (i:=6) Xh.nd rfl (Or.inl rfl) (pk (ok_Change_init T) hr (Za (pv 5) (Za (Zx (Zl (K:=K) rfl) (Zi (K:=K) rfl (pv 0) rfl) (pe_un un_neg Zf) (fun _ _=>rfl)) (Za (pe_callTy (call_tupOf (K:=K) rfl) rfl T.n_tuple boot_tuple (Za (pv 1) Zd)) (Za (pv 2) (Za (pv 3) (Za (pv 4) Zd))))))))
   (Zb (ps_dput (hu_of hr) (Zi (K:=K) rfl (pv 0) rfl) (pv 5) (pv 6) rfl)
   (Zb (Z6 (Yu (K:=K) rfl PySem.F.plainAttrs_list PySem.F.slot_list_append PySem.F.type_list_append Yk (Zi (K:=K) rfl (pv 0) rfl) (Za (pv 5) Zd)))
   (Ze (Zj (pv 6))))))),?_⟩
  obtain ⟨dxh,oh⟩:=X.oh
  obtain ⟨kvs,o1,o2,o3⟩:=X.oc
  refine ⟨_,rfl,_,_,_,_,_,rfl,oh,T.k_History,T.na_History_ends,rfl,en,_,rfl,.inl (SqL.of X.oe),?_⟩
  rw[Zh]
  refine ⟨_,rfl,_,rfl,_,_,_,_,_,rfl,oh,T.k_History,T.na_History_ends,rfl,_,rfl,en,_,_,_,rfl,rfl,SqL.of X.oe,at_last (d:=0) (List.length_pos_iff.mp hE),?_⟩
  rw[hlast]
  refine ⟨_,rfl,rtup hn X.pres fun q1 H1 s1 o4=>?_⟩
  refine ⟨_,rfl,_,rfl,_,rfl,fun x dx hx hdx hne=>⟨x,dx,_,_,_,_,_,_,rfl,Zc,rfl,?_⟩⟩
  rw[Jb]
  have S1:Same H1 (upd (upd H1 dx (.own x)) x (.ins t.C_Change dx (chgF E.length (lastR w') q1 (entPut e) (entKind e) bd))):=fun b o eb=>by
   rw[Zn (Zg eb hx),Zn (Zg eb hdx)];exact eb
  have X1:(upd (upd H1 dx (.own x)) x (.ins t.C_Change dx (chgF E.length (lastR w') q1 (entPut e) (entKind e) bd))) x=some (.ins t.C_Change dx (chgF E.length (lastR w') q1 (entPut e) (entKind e) bd)):=Zc
  have eG:upd (upd H1 dx (.own x)) x (.ins t.C_Change dx [("number",V.int E.length),("earlier",nV (lastR w')),("name",V.ref q1),("is_put",V.bl (entPut e)),("kind",V.int (entKind e)),("body",V.ref bd)])=upd (upd H1 dx (.own x)) x (.ins t.C_Change dx (chgF E.length (lastR w') q1 (entPut e) (entKind e) bd)):=rfl
  rw[eG]
  generalize upd (upd H1 dx (.own x)) x (.ins t.C_Change dx (chgF E.length (lastR w') q1 (entPut e) (entKind e) bd))=G2 at *
  have S:=s1.trans S1
  have hxM:x∉M:=Z8 X.pres (s1.free hx)
  refine ⟨_,rfl,_,rfl,_,_,_,_,_,rfl,(S _ _ oh),T.k_History,T.na_History_changes,rfl,_,rfl,ch,_,rfl,DPut.k (k:=Sum.inl (E.length:Int)) (S _ _ o1) (by rw[Qt];omega),?_⟩
  have hce:ch≠en:=fun z=>by rw[z,X.oe] at o1;cases o1
  have hhc:h≠ch:=fun z=>by rw[z,o1] at oh;cases oh
  have hhe:h≠en:=fun z=>by rw[z,X.oe] at oh;cases oh
  refine ⟨_,rfl,_,_,_,_,_,rfl,((Zn hhc).trans (S _ _ oh)),T.k_History,T.na_History_ends,rfl,Yg ((Zn (Ne.symm hce)).trans (S _ _ X.oe)),_,rfl,en,_,_,rfl,rfl,(Zn (Ne.symm hce)).trans (S _ _ X.oe),(by rw[Zh,Qt];omega),?_⟩
  refine ⟨_,rfl,?_⟩
  have hxc:x≠ch:=fun z=>by rw[z] at hx;rw[s1 _ _ o1] at hx;cases hx
  have hxe:x≠en:=fun z=>by rw[z] at hx;rw[s1 _ _ X.oe] at hx;cases hx
  have K2:Qr [en,ch] G2 (upd (upd G2 ch (.dK (putK kvs (Sum.inl (E.length:Int)) (.ref x)))) en (.lst (nats E++[V.int E.length]))):=(Qr.upd (by simp)).trans (Qr.upd (by simp))
  have hF:∀y∈[en,ch],y∈M:=by
   intro y hy
   rcases List.mem_cons.mp hy with rfl|hy
   ·exact X.me
   ·rw[List.mem_singleton.mp hy];exact X.mc
  have hC:Chg t M (upd (upd G2 ch (.dK (putK kvs (Sum.inl (E.length:Int)) (.ref x)))) en (.lst (nats E++[V.int E.length]))) x E.length (lastR w') e:=
   ⟨dx,q1,bd,⟨by rw[Zn hxe,Zn hxc];exact X1,hxM⟩,Off.keep1 (Off.keep1 o4 (F:=[]) (.of_same S1) (by simp)) K2 hF,Off.keep1 (Off.keep1 hb (F:=[]) (.of_same S) (by simp)) K2 hF⟩
  refine q x _ ((Qr.of_same S).trans K2) ?_ hC
  refine X.add hE o1 hw ((Qr.of_same S).trans K2) ?_ ?_ hC
  ·rw[Zc,Z2];rfl
  ·rw[Zn hce,Zc]
end
theorem Hen.keepF {t:Adr} {M F:List Addr} {H H':Hp} {h en ch sd:Addr} {E:List Nat} {W:List Way} (x:Hen t M H h en ch sd E W) (k:Qr F H H') (hF:∀y∈F,y∈M) (hp:∀y∈F,H' y≠none) (nh:h∉F) (ne:en∉F) (nc:ch∉F):Hen t M H' h en ch sd E W:=by
 obtain ⟨dx,oh⟩:=x.oh
 obtain ⟨kvs,o1,o2,o3⟩:=x.oc
 exact ⟨x.mh,x.me,x.mc,x.ms,Yh x.pres k hp,⟨dx,k _ _ nh oh⟩,k _ _ ne x.oe,kvs,k _ _ nc o1,o2,fun w hw=>(o3 w hw).mono fun n ear e ⟨a,c,b,d⟩=>⟨a,c,b,d.keep k hF fun y hy=>.inl hy⟩⟩
theorem Hst.keepF {t:Adr} {M F:List Addr} {H H':Hp} {h en ch sd:Addr} {sts:List Md33.Stand} (x:Hst t M H h en ch sd sts) (k:Qr F H H') (hF:∀y∈F,y∈M) (hp:∀y∈F,H' y≠none) (nh:h∉F) (ne:en∉F) (nc:ch∉F) (ns:sd∉F):Hst t M H' h en ch sd sts:=by
 obtain ⟨kvs,o1,o2⟩:=x.os
 exact ⟨x.hen.keepF k hF hp nh ne nc,x.ne,kvs,k _ _ ns o1,o2.mono fun c r d=>d.keep k hF fun y hy=>.inl hy⟩
theorem Hst.dist {t:Adr} {M:List Addr} {H:Hp} {h en ch sd:Addr} {sts:List Md33.Stand} (x:Hst t M H h en ch sd sts):h≠en∧h≠ch∧h≠sd∧en≠ch∧en≠sd∧ch≠sd:=by
 obtain ⟨dx,oh⟩:=x.hen.oh
 obtain ⟨kvs,o1,_⟩:=x.hen.oc
 obtain ⟨kv2,o2,_⟩:=x.os
 have oe:=x.hen.oe
 refine ⟨fun z=>?_,fun z=>?_,fun z=>?_,fun z=>?_,fun z=>?_,fun z=>?_⟩
 ·rw[z,oe] at oh;cases oh
 ·rw[z,o1] at oh;cases oh
 ·rw[z,o2] at oh;cases oh
 ·rw[z,o1] at oe;cases oe
 ·rw[z,o2] at oe;cases oe
 ·rw[z,o2] at o1;cases o1
theorem Hst.snoc {t:Adr} {M:List Addr} {H:Hp} {h en ch sd:Addr} {sts:List Md33.Stand} {st:Md33.Stand} {kvs:List (List Key×V)} (x:Hen t M H h en ch sd (sts.map endOf++[endOf st]) ((sts.map fun st=>st.way.reverse)++[st.way.reverse])) (o1:H sd=some (.dT kvs)) (o2:StdK (CR t M H) kvs st.records):Hst t M H h en ch sd (sts++[st]):=by
 refine ⟨?_,by simp,kvs,o1,by rw[lastS_snoc];exact o2⟩
 rw[List.map_append,List.map_append]
 exact x
theorem endOf_snoc {st:Md33.Stand} {w:Way} {n:Nat} {e:Md33.Entry} (h:st.way=w++[(n,e)]):endOf st=n∧st.way.reverse=(n,e)::w.reverse:=by
 unfold endOf
 rw[h,List.reverse_append]
 exact ⟨rfl,rfl⟩
section
variable {P:Program} {w:World} {K:PySem.W.Frag} {mg:Str→Option Value} {base:Heap} {t:Adr}
def sp_History_put (t:Adr):Sp:=fun vs H Q _=>∃(M:List Addr) (h en ch sd nm bd:Addr) (sts:List Md33.Stand) (z:Int) (kind:Nat) (name body:List Nat),vs=[.ref h,.int z,.ref nm,.ref bd]∧z=(kind:Int)∧Hst t M H h en ch sd sts∧sts.length≤1000000∧(lastS sts).records.length≤1000000∧Sorted (lastS sts).records ∧
 (H nm=some (.lst (nats name))∨Off M H nm (.tup (nats name)))∧Off M H bd (.lst (nats body))∧∀H',Qr [en,ch,sd] H H'→Hst t M H' h en ch sd (sts++[stPut sts kind name body])→Q (nV sts.length) H'
theorem ok_History_put (T:Txt K mg t):OkM P w K mg base 4 t.C_History "put" ["self","kind","name","body"] (sp_History_put t):=by
 refine okM T.d_History_put sc_History_put (fun vs H Q E h=>?_) (fun f cdv A outer s H vs Q E hr h=>?_)
 ·obtain ⟨M,h,en,ch,sd,nm,bd,sts,_,kind,name,body,rfl,rfl,X,hl,hrl,hso,hn,hb,q⟩:=h
  rfl
 ·obtain ⟨M,h,en,ch,sd,nm,bd,sts,_,kind,name,body,rfl,rfl,X,hl,hrl,hso,hn,hb,q⟩:=h
  refine ⟨_,(Zb (Zo (i:=4) sc_History_put.nd rfl (Or.inl rfl) (pm (pv 0) T.k_History (J0 T) hr (Za (pv 2) (Za Jz (Za (pv 1) (Za (pv 3) Zd))))))
   (Zb (ps_dput (hu_of hr) (Zi (K:=K) rfl (pv 0) rfl) (Zi (K:=K) rfl (pv 4) rfl) (pv 4) rfl)
   (Ze (Zj (Zi (K:=K) rfl (pv 4) rfl))))),?_⟩
  obtain ⟨dxh,oh⟩:=X.hen.oh
  obtain ⟨kvs,o1,o2⟩:=X.os
  obtain ⟨d1,d2,d3,d4,d5,d6⟩:=X.dist
  have hlen:0<sts.length:=List.length_pos_iff.mpr X.ne
  refine ⟨_,rfl,h,dxh,_,rfl,oh,rfl,_,rfl,_,rfl,_,rfl,M,h,en,ch,sd,nm,bd,_,_,.put kind name body,(lastS sts).way.reverse,_,rfl,rfl,X.hen,by rw[List.length_map];exact hlen,by rw[List.length_map];exact hl,List.mem_map.mpr ⟨_,lastS_mem X.ne,rfl⟩,last_end X.ne,hn,hb,fun c H1 k1 X1 C1=>?_⟩
  rw[List.length_map] at X1 C1
  obtain ⟨dxc,qn,bd',oc,on,ob⟩:=C1
  obtain ⟨dxh1,oh1⟩:=X1.oh
  have o1':H1 sd=some (.dT kvs):=k1 _ _ (by simp[Ne.symm d5,Ne.symm d6]) o1
  have hkl:kvs.length<sizeLine:=by rw[o2.len hso,Qt];omega
  refine ⟨_,rfl,_,rfl,_,_,_,_,_,rfl,oh1,T.k_History,T.na_History_standing,rfl,_,rfl,_,_,_,_,_,rfl,oc.1,T.k_Change,T.na_Change_name,rfl,sd,_,rfl,DPut.t (k:=kN name) o1' (by rw[kN_V];exact on.1) hkl,?_⟩
  have hcs:c≠sd:=fun z=>oc.2 (by rw[z];exact X1.ms)
  refine ⟨_,rfl,_,_,_,_,_,rfl,((Zn hcs).trans oc.1),T.k_Change,T.na_Change_number,rfl,?_⟩
  have k2:Qr [sd] H1 (upd H1 sd (.dT (putK kvs (kN name) (.ref c)))):=Qr.upd (by simp)
  have hF2:∀y∈[sd],y∈M:=by intro y hy;rw[List.mem_singleton.mp hy];exact X1.ms
  have es:=endOf_snoc (st:=stPut sts kind name body) (w:=(lastS sts).way) (n:=sts.length) (e:=.put kind name body) rfl
  refine q _ ((k1.mono (by intro y hy;simp only[List.mem_cons,List.not_mem_nil,or_false] at hy ⊢;rcases hy with e|e<;>simp[e])).trans (k2.mono (by intro y hy;simp only[List.mem_cons,List.not_mem_nil,or_false] at hy ⊢;simp[hy]))) (Hst.snoc ?_ Zc ?_)
  ·rw[es.1,es.2]
   refine X1.keepF k2 hF2 ?_ (by simpa using d3) (by simpa using d5) (by simpa using d6)
   intro y hy
   rw[List.mem_singleton.mp hy,Zc];simp
  ·refine StdK.put ((o2.mono fun c' r d=>?_)) hso (r:=⟨name,kind,sts.length,body⟩) (c:=c) ⟨lastR (lastS sts).way.reverse,?_⟩
   ·exact (d.keep k1 (by intro y hy;simp only[List.mem_cons,List.not_mem_nil,or_false] at hy;rcases hy with e|e<;>rw[e];exact X.hen.me;exact X.hen.mc) fun y hy=>.inl hy).keep k2 hF2 fun y hy=>.inl hy
   ·exact Chg.keep ⟨dxc,qn,bd',oc,on,ob⟩ k2 hF2 fun y hy=>.inl hy
def sp_History_drop (t:Adr):Sp:=fun vs H Q _=>∃(M:List Addr) (h en ch sd nm:Addr) (sts:List Md33.Stand) (name:List Nat),vs=[.ref h,.ref nm]∧Hst t M H h en ch sd sts∧sts.length≤1000000∧(∃r∈(lastS sts).records,r.name=name) ∧
 (H nm=some (.lst (nats name))∨Off M H nm (.tup (nats name)))∧∀H',Qr [en,ch,sd] H H'→Hst t M H' h en ch sd (sts++[stDrop sts name])→Q (nV sts.length) H'
theorem ok_History_drop (T:Txt K mg t):OkM P w K mg base 4 t.C_History "drop" ["self","name"] (sp_History_drop t):=by
 refine okM T.d_History_drop sc_History_drop (fun vs H Q E h=>?_) (fun f cdv A outer s H vs Q E hr h=>?_)
 ·obtain ⟨M,h,en,ch,sd,nm,sts,name,rfl,X,hl,⟨r,hrm,hrn⟩,hn,q⟩:=h
  rfl
 ·obtain ⟨M,h,en,ch,sd,nm,sts,name,rfl,X,hl,⟨r,hrm,hrn⟩,hn,q⟩:=h
  refine ⟨_,(Zb (Zo (i:=2) sc_History_drop.nd rfl (Or.inl rfl) (pm (pv 0) T.k_History (J0 T) hr (Za (pv 1) (Za Jz (Za Zf (Za (Zz Zd) Zd))))))
   (Zb (Z6 (pe_dpopT (hu_of hr) (Zi (K:=K) rfl (pv 0) rfl) (Zi (K:=K) rfl (pv 2) rfl) ⟨rfl,rfl,rfl,rfl⟩))
   (Ze (Zj (Zi (K:=K) rfl (pv 2) rfl))))),?_⟩
  obtain ⟨dxh,oh⟩:=X.hen.oh
  obtain ⟨kvs,o1,o2⟩:=X.os
  obtain ⟨d1,d2,d3,d4,d5,d6⟩:=X.dist
  have hlen:0<sts.length:=List.length_pos_iff.mpr X.ne
  refine ⟨_,rfl,h,dxh,_,rfl,oh,rfl,_,rfl,(show 0≤sizeLine by decide),fun bd hbd=>?_⟩
  have s0:=Zk (o:=.lst []) hbd
  have X0:=X.same s0
  have hbM:bd∉M:=Z8 X.hen.pres hbd
  refine ⟨M,h,en,ch,sd,nm,bd,_,_,.drop name,(lastS sts).way.reverse,_,rfl,rfl,X0.hen,by rw[List.length_map];exact hlen,by rw[List.length_map];exact hl,List.mem_map.mpr ⟨_,lastS_mem X.ne,rfl⟩,last_end X.ne,?_,⟨Zc,hbM⟩,fun c H1 k1 X1 C1=>?_⟩
  ·rcases hn with hn|hn
   ·exact .inl (s0 _ _ hn)
   ·exact .inr ⟨s0 _ _ hn.1,hn.2⟩
  rw[List.length_map] at X1 C1
  obtain ⟨dxc,qn,bd',oc,on,ob⟩:=C1
  obtain ⟨dxh1,oh1⟩:=X1.oh
  have k1':Qr [en,ch] H H1:=(Qr.of_same s0).trans k1
  have o1':H1 sd=some (.dT kvs):=k1' _ _ (by simp[Ne.symm d5,Ne.symm d6]) o1
  obtain ⟨c',hv,_⟩:=o2.at hrm
  rw[hrn] at hv
  refine ⟨_,rfl,_,_,_,_,_,rfl,oh1,T.k_History,T.na_History_standing,rfl,sd,rfl,.inr ⟨_,.inl o1'⟩,_,rfl,_,_,_,_,_,rfl,oc.1,T.k_Change,T.na_Change_name,rfl,kvs,kN name,qn,_,o1',rfl,by rw[kN_V];exact on.1,hv,?_⟩
  have hcs:c≠sd:=fun z=>oc.2 (by rw[z];exact X1.ms)
  refine ⟨_,rfl,_,_,_,_,_,rfl,((Zn hcs).trans oc.1),T.k_Change,T.na_Change_number,rfl,?_⟩
  have k2:Qr [sd] H1 (upd H1 sd (.dT (dropK kvs (kN name)))):=Qr.upd (by simp)
  have hF2:∀y∈[sd],y∈M:=by intro y hy;rw[List.mem_singleton.mp hy];exact X1.ms
  have es:=endOf_snoc (st:=stDrop sts name) (w:=(lastS sts).way) (n:=sts.length) (e:=.drop name) rfl
  refine q _ ((k1'.mono (by intro y hy;simp only[List.mem_cons,List.not_mem_nil,or_false] at hy ⊢;rcases hy with e|e<;>simp[e])).trans (k2.mono (by intro y hy;simp only[List.mem_cons,List.not_mem_nil,or_false] at hy ⊢;simp[hy]))) (Hst.snoc ?_ Zc ?_)
  ·rw[es.1,es.2]
   refine X1.keepF k2 hF2 ?_ (by simpa using d3) (by simpa using d5) (by simpa using d6)
   intro y hy
   rw[List.mem_singleton.mp hy,Zc];simp
  ·refine StdK.drop (o2.mono fun c' r d=>?_) name
   exact (d.keep k1' (by intro y hy;simp only[List.mem_cons,List.not_mem_nil,or_false] at hy;rcases hy with e|e<;>rw[e];exact X.hen.me;exact X.hen.mc) fun y hy=>.inl hy).keep k2 hF2 fun y hy=>.inl hy
def sp_History_record (t:Adr):Sp:=fun vs H Q _=>∃(M:List Addr) (h en ch sd nm:Addr) (sts:List Md33.Stand) (name:List Nat),vs=[.ref h,.ref nm]∧Hst t M H h en ch sd sts∧H nm=some (.lst (nats name)) ∧
 (∀H' r c,Same H H'→r∈(lastS sts).records→r.name=name→CR t M H' c r→Q (.ref c) H')∧(∀H',Same H H'→(∀r∈(lastS sts).records,r.name≠name)→Q .non H')
theorem Jt (T:Txt K mg t):OkM P w K mg base 1 t.C_History "record" ["self","name"] (sp_History_record t):=by
 refine okM T.d_History_record sc_History_record (fun vs H Q E h=>?_) (fun f cdv A outer s H vs Q E hr h=>?_)
 ·obtain ⟨M,h,en,ch,sd,nm,sts,name,rfl,X,hn,q1,q2⟩:=h
  rfl
 ·obtain ⟨M,h,en,ch,sd,nm,sts,name,rfl,X,hn,q1,q2⟩:=h
  refine ⟨_,(Ze (Zj (pe_dget1 (hu_of hr) (Zi (K:=K) rfl (pv 0) rfl) (pe_callTy (call_tupOf (K:=K) rfl) rfl T.n_tuple boot_tuple (Za (pv 1) Zd)) ⟨rfl,rfl,rfl,rfl⟩))),?_⟩
  obtain ⟨dxh,oh⟩:=X.hen.oh
  obtain ⟨kvs,o1,o2⟩:=X.os
  refine ⟨_,rfl,_,_,_,_,_,rfl,oh,T.k_History,T.na_History_standing,rfl,sd,rfl,.inr ⟨_,.inl o1⟩,_,rfl,rtup (.inl hn) X.hen.pres fun qn H1 s1 on=>?_⟩
  refine ⟨_,DGet.t (k:=kN name) (s1 _ _ o1) (by rw[kN_V];exact on.1),?_⟩
  by_cases hf:∃r∈(lastS sts).records,r.name=name
  ·obtain ⟨r,hr,hrn⟩:=hf
   obtain ⟨c,hv,hc⟩:=o2.at hr
   rw[hrn] at hv
   rw[hv]
   exact q1 H1 r c s1 hr hrn (hc.keep (F:=[]) (.of_same s1) (by simp) fun y hy=>.inl hy)
  ·have hno:∀r∈(lastS sts).records,r.name≠name:=fun r hr e=>hf ⟨r,hr,e⟩
   rw[o2.none hno]
   exact q2 H1 s1 hno
end
theorem WayR.drop {G:Nat→Nat→Md33.Entry→Prop}:∀{w:Way} (i:Nat),WayR G w→WayR G (w.drop i)
 | [],i,_=>by rw[List.drop_nil];trivial
 | x::r,0,h=>h
 | x::r,i+1,h=>WayR.drop (w:=r) i h.2.2.2
theorem WayR.len {G:Nat→Nat→Md33.Entry→Prop}:∀{w:Way},WayR G w→w.length≤lastR w
 | [],_=>Nat.le_refl _
 | x::r,h=>by
  have:=WayR.len h.2.2.2
  have h2:=h.2.1
  show r.length+1≤x.1
  omega
def WL (t:Adr) (M:List Addr) (H:Hp) (cs:List Addr) (w:Way):Prop:=Paired (fun c (x:Nat×Md33.Entry)=>∃ear,Chg t M H c x.1 ear x.2) cs w
def muAt (i:Nat) (σ:St):Nat:=match σ[i]? with
 | some (some (.int z))=>z.toNat
 | _=>0
def isPD:Md33.Entry→Bool
 | .back _=>false
 | _=>true
def ValidW (w:Way):Prop:=∀(i n:Nat) (e:Md33.Entry),w[i]?=some (n,e)→isPD e=true∧∀name,e=.drop name→∃r∈replay (w.take i),r.name=name
theorem replay_len:∀(w:Way),(replay w).length≤w.length:=by
 have with_len:∀(r:Md33.Record) (l:List Md33.Record),(Md33.withRecord r l).length≤l.length+1:=by
  intro r l
  induction l with
  | nil=>exact Nat.le_refl _
  | cons x l ih=>
   unfold Md33.withRecord
   split
   ·simp
   ·split
    ·simp
    ·simp only[List.length_cons];omega
 have key:∀(w:Way) (rs:List Md33.Record),(w.foldl replay1 rs).length≤rs.length+w.length:=by
  intro w
  induction w with
  | nil=>intro rs;exact Nat.le_refl _
  | cons x w ih=>
   intro rs
   have h1:=ih (replay1 rs x)
   have h2:(replay1 rs x).length≤rs.length+1:=by
    unfold replay1
    split
    ·exact with_len _ _
    ·exact Nat.le_succ_of_le (List.length_filter_le _ _)
    ·exact Nat.le_succ _
   rw[List.foldl_cons,List.length_cons]
   omega
 intro w
 have:=key w []
 unfold replay
 simpa using this
theorem lc_filt {K:PySem.W.Frag} {tt:TT} {te:TE} {σ:St} {H1:Hp} {D:Addr} {Qd:Hp→Prop} {j:Nat} {a:Addr} {xs:List V} (Pv:Nat→Hp→Prop) (h0:Pv 0 (upd H1 D (.lst []))) (hl:∀i H,i≤xs.length→Pv i H→SqL K H a xs)
  (hs:∀i x H,xs[i]?=some x→Pv i H→tt ((wipe σ [j]).set j (some x)) H fun b H3=>if b=true then te ((wipe σ [j]).set j (some x)) H3 fun y H4=>∃acc,H4 D=some (.lst acc)∧acc.length<sizeLine∧Pv (i+1) (upd H4 D (.lst (acc++[y]))) else Pv (i+1) H3)
  (hd:∀H,Pv xs.length H→Qd H):
  ∃W:Nat→Nat→Hp→Prop,(∃m,W 0 m (upd H1 D (.lst [])))∧∀i m H,W i m H→
   ((Itl K a).stop i H∧Qd H)∨((Itl K a).go i H∧∃Nx:Hp→Prop,(∀H',Nx H'→∃m',m'<m∧W (i+1) m' H')∧∀x H',(Itl K a).yld i H x H'→gName j x (wipe σ [j]) H' fun σ2 H2=>wipe σ2 [j]=wipe σ [j]∧tt σ2 H2 fun b H3=>
    if b=true then te σ2 H3 fun y H4=>∃acc,H4 D=some (.lst acc)∧acc.length<sizeLine∧Nx (upd H4 D (.lst (acc++[y]))) else Nx H3):=by
 refine ⟨fun i m H=>m=xs.length-i∧i≤xs.length∧Pv i H,⟨xs.length,by simp,Nat.zero_le _,h0⟩,?_⟩
 rintro i m H ⟨rfl,hi,p⟩
 have q:=hl i H hi p
 by_cases hlt:i<xs.length
 ·refine .inr ⟨⟨xs,xs[i],q,by simp[hlt]⟩,Pv (i+1),fun H' p'=>⟨xs.length-(i+1),by omega,rfl,hlt,p'⟩,fun x H' y=>?_⟩
  obtain ⟨e,y⟩:=y
  subst e
  exact ⟨wipe1,hs i x _ (y xs q) p⟩
 ·have e:i=xs.length:=by omega
  subst e
  exact .inl ⟨⟨xs,q,Nat.le_refl _⟩,hd H p⟩
theorem Hen.end' {t:Adr} {M:List Addr} {H H':Hp} {h en ch sd:Addr} {E:List Nat} {W:List Way} (X:Hen t M H h en ch sd E W) {w:Way} (hw:w∈W) (k:Qr [en] H H') (m:Nat) (hen':H' en=some (.lst (nats (E++[m])))):Hen t M H' h en ch sd (E++[m]) (W++[w]):=by
 obtain ⟨dx,oh⟩:=X.oh
 obtain ⟨kvs,o1,o2,o3⟩:=X.oc
 have hF:∀x∈[en],x∈M:=by intro x hx;rw[List.mem_singleton.mp hx];exact X.me
 refine ⟨X.mh,X.me,X.mc,X.ms,Yh X.pres k (by intro p hp;rw[List.mem_singleton.mp hp,hen'];simp),⟨dx,k _ _ (fun z=>?_) oh⟩,hen',kvs,k _ _ (fun z=>?_) o1,by rw[List.length_append];exact Nat.le_add_right_of_le o2,fun w' hw'=>?_⟩
 ·rw[List.mem_singleton.mp z,X.oe] at oh;cases oh
 ·rw[List.mem_singleton.mp z,X.oe] at o1;cases o1
 ·have hw'':w'∈W:=by
   rcases List.mem_append.mp hw' with z|z
   ·exact z
   ·rw[List.mem_singleton.mp z];exact hw
  exact (o3 w' hw'').mono fun n ear e ⟨a,c,b,d⟩=>⟨by rw[List.length_append];exact Nat.lt_add_right _ a,c,b,d.keep k hF fun y hy=>.inl hy⟩
section
variable {P:Program} {w:World} {K:PySem.W.Frag} {mg:Str→Option Value} {base:Heap} {t:Adr}
def sp_History_way (t:Adr):Sp:=fun vs H Q _=>∃(M:List Addr) (h en ch sd:Addr) (E:List Nat) (W:List Way) (w:Way) (z:Int),vs=[.ref h,.int z]∧z=(lastR w:Int)∧Hen t M H h en ch sd E W∧E.length≤1000000∧w∈W∧0<E.length ∧
 ∀r H' cs,Same H H'→H r=none→H' r=some (.lst (cs.map V.ref))→WL t M H cs w→Q (.ref r) H'
theorem ok_History_way (T:Txt K mg t):OkM P w K mg base 1 t.C_History "way" ["self","end"] (sp_History_way t):=by
 refine okM T.d_History_way Xp (fun vs H Q E h=>?_) (fun f cdv A outer s H vs Q E hr h=>?_)
 ·obtain ⟨M,h,en,ch,sd,E,W,w',_,rfl,rfl,X,hEl,hw,hE,q⟩:=h
  rfl
 ·obtain ⟨M,h,en,ch,sd,E,W,w',_,rfl,rfl,X,hEl,hw,hE,q⟩:=h
  refine ⟨_,(Zb (Zo (i:=2) Xp.nd rfl (Or.inl rfl) (Zz Zd))
   (Zb (Zo (i:=3) Xp.nd rfl (Or.inl rfl) (pv 1))
   (Zb (ps_while PassesOwn.never (Zu op_gt (pv 3) Zf (Qv _)) (Zb (Zo (i:=4) Xp.nd rfl (Or.inl rfl) (pe_dget (hu_of hr) (Zi (K:=K) rfl (pv 0) rfl) (pv 3) (fun _ _=>rfl)))
   (Zb (Z6 (Yu (K:=K) rfl PySem.F.plainAttrs_list PySem.F.slot_list_append PySem.F.type_list_append Yk (pv 2) (Za (pv 4) Zd)))
   (Ze (Zo (i:=3) Xp.nd rfl (Or.inl rfl) (Zi (K:=K) rfl (pv 4) rfl))))))
   (Ze (Zj (pv 2)))))),?_⟩
  obtain ⟨dxh,oh⟩:=X.oh
  obtain ⟨kvs,o1,o2,o3⟩:=X.oc
  have hW:=o3 w' hw
  have hlast:=hW.last hE
  have hwl:=hW.len
  refine ⟨(show 0≤sizeLine by decide),fun r hnr=>?_⟩
  have s0:=Zk (o:=.lst []) hnr
  refine ⟨_,rfl,while_by (fun σ H2=>∃(i:Nat) (cs:List Addr) (v4:Option V),σ=[some (.ref h),some (.int (lastR w':Nat)),some (.ref r),some (.int (lastR (w'.drop i):Nat)),v4]∧i≤w'.length∧Same H H2∧H2 r=some (.lst (cs.map V.ref))∧WL t M H cs (w'.take i)) (fun σ _=>muAt 3 σ)
   ⟨0,[],none,rfl,Nat.zero_le _,s0,Zc,.nil⟩ ?_ ?_⟩
  ·rintro σ H2 ⟨i,cs,v4,rfl,hi,s2,h2,hp⟩
   refine ⟨_,rfl,_,_,rfl,rfl,_,rfl,ite2 (fun hlt=>?_) fun hlt=>?_⟩
   ·have hpos:0<lastR (w'.drop i):=by have:=of_decide_eq_true hlt;omega
    have hWd:=hW.drop i
    have hi':i<w'.length:=by
     by_cases z:i<w'.length
     ·exact z
     ·rw[List.drop_of_length_le (by omega)] at hpos;exact absurd hpos (by decide)
    have hd:w'.drop i=w'[i]::w'.drop (i+1):=List.drop_eq_getElem_cons hi'
    rw[hd] at hWd
    obtain ⟨h1,h2',⟨h3,c,hv,hc⟩,h4⟩:=hWd
    have eL:lastR (w'.drop i)=w'[i].1:=by rw[hd];rfl
    have hg:DGet H2 ch (V.int (lastR (w'.drop i):Nat)) (some (.ref c)):=by
     have:=DGet.k (k:=Sum.inl ((w'[i].1:Nat):Int)) (s2 _ _ o1)
     rw[hv] at this
     rw[eL]
     exact this
    refine ⟨_,rfl,_,_,_,_,_,rfl,(s2 _ _ oh),T.k_History,T.na_History_changes,rfl,_,rfl,ch,_,rfl,hg,?_⟩
    have hcl:cs.length=i:=by
     have:=Paired.length hp
     rw[this,List.length_take];omega
    refine ⟨_,rfl,Yg h2,_,rfl,r,_,_,rfl,rfl,h2,by rw[List.length_map,Qt];omega,?_⟩
    obtain ⟨dxc,qn,bd,oc,on,ob⟩:=hc
    have hcr:c≠r:=fun z=>by rw[← z,oc.1] at hnr;cases hnr
    refine ⟨_,rfl,_,_,_,_,_,rfl,((Zn hcr).trans (s2 _ _ oc.1)),T.k_Change,T.na_Change_earlier,rfl,?_⟩
    refine ⟨⟨i+1,cs++[c],some (.ref c),rfl,hi',fun b o e=>?_,?_,?_⟩,?_⟩
    ·rw[Zn (Zg e hnr)];exact s2 _ _ e
    ·rw[Zc,List.map_append];rfl
    ·rw[List.take_add_one,List.getElem?_eq_getElem hi']
     exact Paired.snoc hp ⟨_,dxc,qn,bd,oc,on,ob⟩
    ·show (Int.toNat ((lastR (w'.drop (i+1)):Nat):Int))<Int.toNat ((lastR (w'.drop i):Nat):Int)
     rw[Int.toNat_natCast,Int.toNat_natCast,eL]
     exact h2'
   ·have hz:lastR (w'.drop i)=0:=by
     have:¬ (0:Int)<(lastR (w'.drop i):Nat):=fun z=>hlt (decide_eq_true z)
     omega
    have hge:w'.length≤i:=by
     by_cases z:i<w'.length
     ·have hWd:=hW.drop i
      have hd:w'.drop i=w'[i]::w'.drop (i+1):=List.drop_eq_getElem_cons z
      rw[hd] at hWd hz
      have h1:=hWd.1
      have hz':w'[i].1=0:=hz
      omega
     ·omega
    rw[List.take_of_length_le hge] at hp
    exact ⟨_,rfl,q r H2 cs s2 hnr h2 hp⟩
  ·rintro σ H2 Q' Q'' hq ⟨v,e,i,j,ei,ej,k,ek,q'⟩
   exact ⟨v,e,i,j,ei,ej,k,ek,hq _ _ q'⟩
def sp_standing_after (t:Adr):Sp:=fun vs H Q _=>∃(M:List Addr) (a:Addr) (cs:List Addr) (w:Way),vs=[.ref a]∧H a=some (.lst (cs.map V.ref))∧WL t M H cs w∧ValidW w.reverse∧w.length≤1000000∧(∀p∈M,H p≠none) ∧
 ∀d H' kvs,Same H H'→H d=none→H' d=some (.dT kvs)→StdK (CR t M H) kvs (replay w.reverse)→Q (.ref d) H'
theorem ok_standing_after (T:Txt K mg t):OkF P w K mg base 1 "standing_after" ["way"] (sp_standing_after t):=by
 refine okF T.d_standing_after Jl (fun vs H Q E h=>?_) (fun f cdv A outer s H vs Q E hr h=>?_)
 ·obtain ⟨M,a,cs,w',rfl,ha,hp,hv,hl,pres,q⟩:=h
  rfl
 ·obtain ⟨M,a,cs,w',rfl,ha,hp,hv,hl,pres,q⟩:=h
  refine ⟨_,(Zb (Zo (i:=1) Jl.nd rfl (Or.inl rfl) pe_dnewT)
   (Zb (Y2 PassesOwn.never rfl (pi_reversed rfl T.n_reversed (Za (pv 0) Zd)) (Z3 (i:=2) Jl.nd rfl (Or.inl rfl)) (Ze (Z4 (Ji (Zi (K:=K) rfl (pv 2) rfl)) (Ze (ps_dput (hu_of hr) (pv 1) (Zi (K:=K) rfl (pv 2) rfl) (pv 2) rfl)) (Ze (Z6 (pe_dpopT (hu_of hr) (pv 1) (Zi (K:=K) rfl (pv 2) rfl) ⟨rfl,rfl,rfl,rfl⟩))))))
   (Ze (Zj (pv 1))))),?_⟩
  refine fun d hd=>?_
  have s0:=Zk (o:=.dT []) hd
  have hcl:cs.length=w'.length:=Paired.length hp
  refine ⟨_,rfl,a,_,rfl,SqL.of (s0 _ _ ha),for_rev (xs:=cs.map V.ref) (fun i σ H2=>∃(v2:Option V) (kvs:List (List Key×V)),σ=[some (.ref a),some (.ref d),v2]∧Same H H2∧H2 d=some (.dT kvs)∧StdK (CR t M H) kvs (replay (w'.reverse.take i))) ⟨none,[],rfl,s0,Zc,StdK.nil _⟩
   (fun i σ H2 _ ⟨_,_,_,s2,_⟩=>SqL.of (s2 _ _ ha)) ?_ ?_⟩
  ·rintro i x σ H2 hi hx ⟨v2,kvs,rfl,s2,h2,hk⟩
   rw[List.length_map] at hi hx
   rw[List.getElem?_map] at hx
   have hj:cs.length-1-i<cs.length:=by omega
   rw[List.getElem?_eq_getElem hj] at hx
   have hx':V.ref cs[cs.length-1-i]=x:=Option.some.inj hx
   subst hx'
   obtain ⟨y,hy,ear,hc⟩:=Xr hp (List.getElem?_eq_getElem hj)
   have hyr:w'.reverse[i]?=some y:=by
    rw[List.getElem?_reverse (by omega),← hcl,hy]
   obtain ⟨n,e⟩:=y
   obtain ⟨hpd,hdr⟩:=hv i n e hyr
   generalize cs[cs.length-1-i]=c at *
   obtain ⟨dxc,qn,bd,oc,on,ob⟩:=hc
   have hso:=Yp (w'.reverse.take i)
   have hkl:kvs.length<sizeLine:=by
    rw[hk.len hso,Qt]
    have h1:=replay_len (w'.reverse.take i)
    rw[List.length_take,List.length_reverse] at h1
    omega
   have enext:replay (w'.reverse.take (i+1))=replay1 (replay (w'.reverse.take i)) (n,e):=by
    rw[List.take_add_one,hyr,← replay_snoc];rfl
   have hcd:c≠d:=fun z=>by rw[z] at oc;rw[oc.1] at hd;cases hd
   refine ⟨_,rfl,_,_,_,_,_,rfl,(s2 _ _ oc.1),T.k_Change,T.na_Change_is_put,rfl,_,rfl,?_⟩
   cases e with
   | put kind name body=>
    refine iteT ?_
    refine ⟨_,rfl,_,rfl,_,rfl,_,_,_,_,_,rfl,(s2 _ _ oc.1),T.k_Change,T.na_Change_name,rfl,d,_,rfl,DPut.t (k:=kN name) h2 (by rw[kN_V];exact s2 _ _ on.1) hkl,?_⟩
    refine ⟨_,_,rfl,fun b o eb=>?_,Zc,?_⟩
    ·rw[Zn (Zg eb hd)];exact s2 _ _ eb
    ·rw[enext]
     exact hk.put hso (r:=⟨name,kind,n,body⟩) ⟨ear,dxc,qn,bd,oc,on,ob⟩
   | drop name=>
    obtain ⟨r,hrm,hrn⟩:=hdr name rfl
    obtain ⟨c',hv',_⟩:=hk.at hrm
    rw[hrn] at hv'
    refine iteF ?_
    refine ⟨_,rfl,d,rfl,.inr ⟨_,.inl h2⟩,_,rfl,_,_,_,_,_,rfl,(s2 _ _ oc.1),T.k_Change,T.na_Change_name,rfl,kvs,kN name,qn,_,h2,rfl,by rw[kN_V];exact s2 _ _ on.1,hv',?_⟩
    refine ⟨_,_,rfl,fun b o eb=>?_,Zc,?_⟩
    ·rw[Zn (Zg eb hd)];exact s2 _ _ eb
    ·rw[enext]
     exact hk.drop name
   | back k=>cases hpd
  ·rintro σ H2 ⟨v2,kvs,rfl,s2,h2,hk⟩
   rw[List.length_map,hcl,List.take_of_length_le (by rw[List.length_reverse];exact Nat.le_refl _)] at hk
   exact ⟨_,rfl,q d H2 kvs s2 hd h2 hk⟩
theorem mem3 {P:Addr→Prop} {a b c:Addr} (ha:P a) (hb:P b) (hc:P c):∀y∈[a,b,c],P y:=by
 intro y hy
 simp only[List.mem_cons,List.not_mem_nil,or_false] at hy
 rcases hy with rfl|rfl|rfl
 ·exact ha
 ·exact hb
 ·exact hc
theorem mem2 {P:Addr→Prop} {a b:Addr} (ha:P a) (hb:P b):∀y∈[a,b],P y:=by
 intro y hy
 simp only[List.mem_cons,List.not_mem_nil,or_false] at hy
 rcases hy with rfl|rfl
 ·exact ha
 ·exact hb
theorem mem1 {P:Addr→Prop} {a:Addr} (ha:P a):∀y∈[a],P y:=by
 intro y hy
 rw[List.mem_singleton.mp hy];exact ha
def sp_History_back (t:Adr):Sp:=fun vs H Q _=>∃(M:List Addr) (h en ch sd:Addr) (sts:List Md33.Stand) (z:Int) (k:Nat) (st:Md33.Stand),vs=[.ref h,.int z]∧z=(k:Int)∧Hst t M H h en ch sd sts∧sts.length≤999999∧sts[k]?=some st∧ValidW st.way∧st.records=replay st.way ∧
 ∀sd' H',H sd'=none→Qr [h,en] H H'→Hst t (sd'::M) H' h en ch sd' (sts++[st])→Q (nV sts.length) H'
theorem ok_History_back (T:Txt K mg t):OkM P w K mg base 2 t.C_History "back" ["self","number"] (sp_History_back t):=by
 refine okM T.d_History_back sc_History_back (fun vs H Q E h=>?_) (fun f cdv A outer s H vs Q E hr h=>?_)
 ·obtain ⟨M,h,en,ch,sd,sts,_,k,st,rfl,rfl,X,hl,hk,hv,hrc,q⟩:=h
  rfl
 ·obtain ⟨M,h,en,ch,sd,sts,_,k,st,rfl,rfl,X,hl,hk,hv,hrc,q⟩:=h
  refine ⟨_,(Zb (Zo (i:=2) sc_History_back.nd rfl (Or.inl rfl) (Zx (Zl (K:=K) rfl) (Zi (K:=K) rfl (pv 0) rfl) (pv 1) (fun _ _=>rfl)))
   (Zb (Z6 (Yu (K:=K) rfl PySem.F.plainAttrs_list PySem.F.slot_list_append PySem.F.type_list_append Yk (Zi (K:=K) rfl (pv 0) rfl) (Za (pv 2) Zd)))
   (Zb (Ye (K:=K) rfl (pv 0) (pf (ok_standing_after T) hr (Za (pm (pv 0) T.k_History (ok_History_way T) hr (Za (pv 2) Zd)) Zd)) rfl)
   (Ze (Zj (pm0 (pv 0) T.k_History (Z7 T) hr)))))),?_⟩
  obtain ⟨dxh,oh⟩:=X.hen.oh
  obtain ⟨kvs,o1,o2⟩:=X.os
  obtain ⟨d1,d2,d3,d4,d5,d6⟩:=X.dist
  have hkl:k<sts.length:=(List.getElem?_eq_some_iff.mp hk).1
  have hE:(sts.map endOf).getD k 0=endOf st:=by
   rw[List.getD_eq_getElem?_getD,List.getElem?_map,hk];rfl
  have hst:st∈sts:=List.mem_of_getElem? hk
  refine ⟨_,rfl,_,_,_,_,_,rfl,oh,T.k_History,T.na_History_ends,rfl,_,rfl,en,_,_,_,rfl,rfl,SqL.of X.hen.oe,at_n (j:=k) (by rw[List.length_map];exact hkl) rfl,?_⟩
  rw[hE]
  refine ⟨_,rfl,_,_,_,_,_,rfl,oh,T.k_History,T.na_History_ends,rfl,Yg X.hen.oe,_,rfl,en,_,_,rfl,rfl,X.hen.oe,by rw[Zh,List.length_map,Qt];omega,?_⟩
  have k1:Qr [en] H (upd H en (.lst (nats (sts.map endOf)++[nV (endOf st)]))):=Qr.upd (by simp)
  have e1:(upd H en (.lst (nats (sts.map endOf)++[nV (endOf st)]))) en=some (.lst (nats (sts.map endOf++[endOf st]))):=by rw[Zc,Z2];rfl
  have hwm:st.way.reverse∈sts.map fun st=>st.way.reverse:=List.mem_map.mpr ⟨st,hst,rfl⟩
  have X1:=X.hen.end' hwm k1 (endOf st) e1
  have oh1:=k1 _ _ (by simpa using d1) oh
  generalize upd H en (.lst (nats (sts.map endOf)++[nV (endOf st)]))=G1 at *
  have hlen1:(sts.map endOf++[endOf st]).length=sts.length+1:=by rw[List.length_append,List.length_map];rfl
  refine ⟨_,rfl,h,dxh,_,rfl,oh1,rfl,_,rfl,M,h,en,ch,sd,_,_,st.way.reverse,_,rfl,rfl,X1,by rw[hlen1];omega,List.mem_append_left _ hwm,by rw[hlen1];omega,fun r G2 cs s2 n2 e2 wl=>?_⟩
  obtain ⟨kv1,c1,c2,c3⟩:=X1.oc
  have hwl:=(c3 _ (List.mem_append_left _ hwm)).len
  have hwl2:=(c3 _ (List.mem_append_left _ hwm)).last (by rw[hlen1];omega)
  rw[hlen1] at hwl2
  have wl2:WL t M G2 cs st.way.reverse:=Paired.mapP wl fun c x ⟨ear,hc⟩=>⟨ear,hc.keep (F:=[]) (.of_same s2) (by simp) fun y hy=>.inl hy⟩
  have hv':ValidW st.way.reverse.reverse:=by rw[List.reverse_reverse];exact hv
  refine ⟨M,r,cs,st.way.reverse,rfl,e2,wl2,hv',by omega,(X1.same s2).pres,fun d G3 kvs3 s3 n3 e3 hk3=>?_⟩
  rw[List.reverse_reverse] at hk3
  have S:=s2.trans s3
  have X3:=X1.same S
  have hd1:G1 d=none:=s2.free n3
  have hd0:H d=none:=Je k1 (mem1 (by rw[X1.oe];simp)) hd1
  refine ⟨_,rfl,h,_,dxh,_,rfl,S _ _ oh1,T.k_History,T.na_History_standing,(show 3<1000 by decide),?_⟩
  have k4:Qr [h] G3 (upd G3 h (.ins t.C_History dxh (putF "standing" (.ref d) [("ends",.ref en),("changes",.ref ch),("standing",.ref sd)]))):=Qr.upd (by simp)
  have oh4:(upd G3 h (.ins t.C_History dxh (putF "standing" (.ref d) [("ends",.ref en),("changes",.ref ch),("standing",.ref sd)]))) h=some (.ins t.C_History dxh [("ends",.ref en),("changes",.ref ch),("standing",.ref d)]):=Zc
  generalize upd G3 h (.ins t.C_History dxh (putF "standing" (.ref d) [("ends",.ref en),("changes",.ref ch),("standing",.ref sd)]))=G4 at *
  have hdh:d≠h:=fun z=>by rw[z,oh] at hd0;cases hd0
  have hM':∀y∈d::M,y∈M∨G1 y=none:=fun y hy=>(List.mem_cons.mp hy).elim (fun e=>.inr (by rw[e];exact hd1)) .inl
  have hM3:∀y∈d::M,y∈M∨G2 y=none:=fun y hy=>(List.mem_cons.mp hy).elim (fun e=>.inr (by rw[e];exact n3)) .inl
  have K14:Qr [h] G1 G4:=(Qr.of_same S).trans k4
  have K24:Qr [h] G2 G4:=(Qr.of_same s3).trans k4
  have X4:Hst t (d::M) G4 h en ch d (sts++[st]):=by
   refine Hst.snoc (kvs:=kvs3) ⟨List.mem_cons_of_mem _ X.hen.mh,List.mem_cons_of_mem _ X.hen.me,List.mem_cons_of_mem _ X.hen.mc,by simp,?_,⟨dxh,oh4⟩,k4 _ _ (by simpa using Ne.symm d1) X3.oe,?_⟩ (k4 _ _ (by simpa using hdh) e3) ?_
   ·intro p hp
    rcases List.mem_cons.mp hp with e|hp
    ·rw[e,k4 _ _ (by simpa using hdh) e3];simp
    ·exact Yh X3.pres k4 (mem1 (by rw[oh4];simp)) p hp
   ·refine ⟨kv1,K14 _ _ (by simpa using Ne.symm d2) c1,c2,fun w hw=>(c3 w hw).mono fun n ear e ⟨a,c,b,dd⟩=>⟨a,c,b,dd.keep K14 (mem1 X.hen.mh) hM'⟩⟩
   ·rw[hrc]
    exact hk3.mono fun c r dd=>dd.keep K24 (mem1 X.hen.mh) hM3
  refine ⟨_,rfl,h,dxh,_,rfl,oh4,rfl,d::M,h,en,ch,d,_,_,rfl,X4.hen,by rw[List.length_map,List.length_append];exact Nat.succ_pos _,?_⟩
  have:=q d G4 hd0 ((k1.mono (mem1 (by simp))).trans (K14.mono (mem1 (by simp)))) X4
  rw[List.length_map,List.length_append]
  exact this
def sp_History_records (t:Adr):Sp:=fun vs H Q _=>∃(M:List Addr) (h en ch sd:Addr) (sts:List Md33.Stand),vs=[.ref h]∧Hst t M H h en ch sd sts∧Sorted (lastS sts).records∧(∀r∈(lastS sts).records,r.name≠[])∧(lastS sts).records.length≤1000000 ∧
 ∀p H' cs,Same H H'→H p=none→H' p=some (.lst (cs.map V.ref))→Paired (fun c r=>CR t M H c r) cs (lastS sts).records→Q (.ref p) H'
theorem ok_History_records (T:Txt K mg t):OkM P w K mg base 1 t.C_History "records" ["self"] (sp_History_records t):=by
 refine okM T.d_History_records Jg (fun vs H Q E h=>?_) (fun f cdv A outer s H vs Q E hr h=>?_)
 ·obtain ⟨M,h,en,ch,sd,sts,rfl,X,hso,hne,hl,q⟩:=h
  rfl
 ·obtain ⟨M,h,en,ch,sd,sts,rfl,X,hso,hne,hl,q⟩:=h
  refine ⟨_,(Ze (Zj (pe_lc rfl Jg.nd (J8 (Zs (call_sortedD rfl) rfl T.n_sorted boot_sorted (Za (Zi (K:=K) rfl (pv 0) rfl) Zd))) (Xt (N:=["self","name"]) (sc:=Qs Jo) (own:=[("name",1)]) (by decide +kernel)) (fun _ _ _ _ _=>(Z3 (i:=1) Jg.nd rfl (Or.inl rfl))) (fun _ _ _ _ _=>pts_nil) (fun _ _ _ _ _=>(pe_dget (hu_of hr) (Zi (K:=K) rfl (pv 0) rfl) (pv 1) (fun _ _=>rfl)))))),?_⟩
  obtain ⟨dxh,oh⟩:=X.hen.oh
  obtain ⟨kvs,o1,o2⟩:=X.os
  obtain ⟨nm,n1,n2,n3,n4⟩:=o2.ex
  refine ⟨_,rfl,_,_,_,_,_,rfl,oh,T.k_History,T.na_History_standing,rfl,sd,kvs,nm,rfl,o1,n1,fun n hn=>?_,fun p qs out hp hperm hpw hql hqs=>?_⟩
  ·obtain ⟨r,hrm,e⟩:=(n3 n).mp hn
   rw[← e];exact hne r hrm
  have hout:=sorted_names hso n2 n3 hperm hpw
  subst hout
  rw[List.length_map] at hql
  have s1:=Zk (o:=.lst (qs.map V.ref)) hp
  refine ⟨p,rfl,⟨_,SqL.of Zc⟩,fun D hD=>lc_lst (fun i=>(valV kvs (kN (((lastS sts).records.map (·.name)).getD i []))).getD .non) (SqL.of Zc) (by rw[List.length_map,hql,Qt];omega) hD (fun i H' x hx u1 N hN=>?_) fun H' u1 h1=>?_⟩
  ·rw[List.getElem?_map] at hx
   cases hqi:qs[i]? with
   | none=>rw[hqi] at hx;cases hx
   | some qi=>
    rw[hqi] at hx
    have hx':V.ref qi=x:=Option.some.inj hx
    subst hx'
    have hi:i<(lastS sts).records.length:=by rw[← hql];exact (List.getElem?_eq_some_iff.mp hqi).1
    have hri:(lastS sts).records[i]?=some (lastS sts).records[i]:=List.getElem?_eq_getElem hi
    have hni:((lastS sts).records.map (·.name))[i]?=some (lastS sts).records[i].name:=by rw[List.getElem?_map,hri];rfl
    have htu:=hqs i qi _ hqi hni
    obtain ⟨c,hv,hc⟩:=n4 _ (List.getElem_mem hi)
    have S:=s1.trans u1
    have hg:DGet H' sd (V.ref qi) (some (.ref c)):=by
     have:=DGet.t (k:=kN (lastS sts).records[i].name) (S _ _ o1) (b:=qi) (by rw[kN_V];exact S _ _ htu)
     rw[hv] at this
     exact this
    refine ⟨_,rfl,_,_,_,_,_,rfl,(S _ _ oh),T.k_History,T.na_History_standing,rfl,_,rfl,sd,_,rfl,hg,?_⟩
    have:=hN H' (Same.refl _)
    rw[List.getD_eq_getElem?_getD,hni,Option.getD_some,hv] at this
    exact this
  ·have S:=s1.trans u1
   have hpair:∀rs:List Md33.Record,(∀r∈rs,∃c,valV kvs (kN r.name)=some (.ref c)∧CR t M H c r)→∃cs:List Addr,Paired (fun c r=>CR t M H c r) cs rs∧(rs.map fun r=>(valV kvs (kN r.name)).getD .non)=cs.map V.ref:=by
    intro rs
    induction rs with
    | nil=>intro _;exact ⟨[],.nil,rfl⟩
    | cons r rs ih=>
     intro hr
     obtain ⟨c,hv,hc⟩:=hr r (by simp)
     obtain ⟨cs,h1,h2⟩:=ih fun x hx=>hr x (List.mem_cons_of_mem _ hx)
     exact ⟨c::cs,.cons hc h1,by rw[List.map_cons,List.map_cons,h2,hv];rfl⟩
   obtain ⟨cs,hcs,he⟩:=hpair _ n4
   refine q D H' cs S (s1.free hD) ?_ hcs
   rw[h1,← he,List.length_map,hql]
   congr 2
   apply List.ext_getElem?
   intro i
   by_cases hi:i<(lastS sts).records.length
   ·rw[List.getElem?_map,List.getElem?_range hi,List.getElem?_map,List.getElem?_eq_getElem hi]
    show some ((valV kvs (kN (((lastS sts).records.map (·.name)).getD i []))).getD V.non)=some _
    rw[List.getD_eq_getElem?_getD,List.getElem?_map,List.getElem?_eq_getElem hi]
    rfl
   ·rw[List.getElem?_eq_none (by simp;omega),List.getElem?_eq_none (by simp;omega)]
def verF (name:List Nat) (x:Nat×Md33.Entry):Option (Nat×Nat×List Nat):=match x.2 with
 | .put kind n body=>if n=name then some (kind,x.1,body) else none
 | _=>none
theorem versions_eq (st:Md33.Stand) (name:List Nat):Md33.versions st name=st.way.reverse.filterMap (verF name):=rfl
def VL (t:Adr) (M:List Addr) (H:Hp) (name:List Nat) (cs:List Addr) (vs:List (Nat×Nat×List Nat)):Prop:=Paired (fun c (x:Nat×Nat×List Nat)=>∃ear,Chg t M H c x.2.1 ear (.put x.1 name x.2.2)) cs vs
def sp_History_versions (t:Adr):Sp:=fun vs H Q _=>∃(M:List Addr) (h en ch sd nm:Addr) (sts:List Md33.Stand) (name:List Nat),vs=[.ref h,.ref nm]∧Hst t M H h en ch sd sts∧H nm=some (.lst (nats name))∧sts.length≤1000000∧(∀x∈(lastS sts).way,isPD x.2=true) ∧
 ∀p H' cs,Same H H'→H p=none→H' p=some (.lst (cs.map V.ref))→VL t M H' name cs (Md33.versions (lastS sts) name)→Q (.ref p) H'
theorem ok_History_versions (T:Txt K mg t):OkM P w K mg base 2 t.C_History "versions" ["self","name"] (sp_History_versions t):=by
 refine okM T.d_History_versions Y3 (fun vs H Q E h=>?_) (fun f cdv A outer s H vs Q E hr h=>?_)
 ·obtain ⟨M,h,en,ch,sd,nm,sts,name,rfl,X,hn,hl,hpd,q⟩:=h
  rfl
 ·obtain ⟨M,h,en,ch,sd,nm,sts,name,rfl,X,hn,hl,hpd,q⟩:=h
  refine ⟨_,(Zb (Zo (i:=2) Y3.nd rfl (Or.inr rfl) (pe_callTy (call_tupOf (K:=K) rfl) rfl T.n_tuple boot_tuple (Za (pv 1) Zd)))
   (Ze (Zj (pe_lc rfl Y3.nd (J8 (pm (pv 0) T.k_History (ok_History_way T) hr (Za (Zx (Zl (K:=K) rfl) (Zi (K:=K) rfl (pv 0) rfl) (pe_un un_neg Zf) (fun _ _=>rfl)) Zd))) (Xt (N:=["self","name","wanted","change"]) (sc:=Qs Jh) (own:=[("change",3)]) (by decide +kernel)) (fun _ _ _ _ _=>(Z3 (i:=3) Y3.nd rfl (Or.inl rfl))) (fun _ _ _ _ _=>(pts_one (PW.pt (pw_and (Ji (Zi (K:=K) rfl (pv 3) rfl)) (pw_and1 (Zu (op_eqDK (K:=K) rfl (hv_of hr)) (Zi (K:=K) rfl (pv 3) rfl) (pv 2) (Qv _))))))) (fun _ _ _ _ _=>(pv 3)))))),?_⟩
  obtain ⟨dxh,oh⟩:=X.hen.oh
  have hE:0<(sts.map endOf).length:=by rw[List.length_map];exact List.length_pos_iff.mpr X.ne
  refine ⟨_,rfl,rtup (.inl hn) X.hen.pres fun qn H1 s1 on=>?_⟩
  have X1:=X.same s1
  have oh1:=s1 _ _ oh
  have hwm:(lastS sts).way.reverse∈sts.map fun st=>st.way.reverse:=List.mem_map.mpr ⟨_,lastS_mem X.ne,rfl⟩
  refine ⟨_,rfl,h,dxh,_,rfl,oh1,rfl,_,rfl,_,_,_,_,_,rfl,oh1,T.k_History,T.na_History_ends,rfl,_,rfl,en,_,_,_,rfl,rfl,SqL.of X1.hen.oe,at_last (d:=0) (List.length_pos_iff.mp hE),M,h,en,ch,sd,_,_,(lastS sts).way.reverse,_,rfl,by rw[last_end X.ne],X1.hen,by rw[List.length_map];exact hl,hwm,hE,fun r H2 cs s2 n2 e2 wl=>?_⟩
  have hcl:cs.length=(lastS sts).way.reverse.length:=Paired.length wl
  obtain ⟨kv1,c1,c2,c3⟩:=X1.hen.oc
  have hwl:=(c3 _ hwm).len
  have hwl2:=(c3 _ hwm).last hE
  rw[List.length_map] at hwl2
  refine ⟨r,rfl,⟨_,SqL.of e2⟩,fun D hD=>lc_filt (xs:=cs.map V.ref) (fun i H3=>∃vs:List Addr,Same H2 H3∧H3 D=some (.lst (vs.map V.ref))∧vs.length≤i∧VL t M H1 name vs (((lastS sts).way.reverse.take i).filterMap (verF name))) ⟨[],Zk hD,Zc,Nat.le_refl _,.nil⟩
   (fun i H3 _ ⟨_,s3,_⟩=>SqL.of (s3 _ _ e2)) ?_ ?_⟩
  ·rintro i x H3 hx ⟨vs,s3,h3,hvl,hv⟩
   rw[List.getElem?_map] at hx
   cases hci:cs[i]? with
   | none=>rw[hci] at hx;cases hx
   | some c=>
    rw[hci] at hx
    have hx':V.ref c=x:=Option.some.inj hx
    subst hx'
    obtain ⟨y,hy,ear,hc⟩:=Xr wl hci
    obtain ⟨n,e⟩:=y
    have hi:i<cs.length:=(List.getElem?_eq_some_iff.mp hci).1
    have S:=s2.trans s3
    have hC:=hc
    obtain ⟨dxc,q1,bd,oc,on1,ob⟩:=hc
    have enx:((lastS sts).way.reverse.take (i+1)).filterMap (verF name)=((lastS sts).way.reverse.take i).filterMap (verF name)++(verF name (n,e)).toList:=by
     rw[List.take_add_one,hy,List.filterMap_append]
     cases hvf:verF name (n,e)<;>simp[hvf]
    have hmem:isPD e=true:=hpd (n,e) (List.mem_reverse.mp (List.mem_of_getElem? hy))
    refine ⟨_,rfl,_,_,_,_,_,rfl,(S _ _ oc.1),T.k_Change,T.na_Change_is_put,rfl,_,rfl,?_⟩
    cases e with
    | put kind nm' body=>
     refine iteT ?_
     refine ⟨_,rfl,_,_,_,_,_,rfl,(S _ _ oc.1),T.k_Change,T.na_Change_name,rfl,_,rfl,reqT (S _ _ on1.1) (S _ _ on.1) ⟨_,rfl,ite2 (fun hd=>?_) fun hd=>?_⟩⟩
     ·have e':nm'=name:=of_decide_eq_true hd
      subst e'
      refine ⟨_,rfl,_,h3,by rw[List.length_map,Qt];omega,vs++[c],fun b o eb=>?_,?_,by rw[List.length_append];exact Nat.succ_le_succ hvl,?_⟩
      ·rw[Zn (Zg eb hD)];exact s3 _ _ eb
      ·rw[Zc,List.map_append];rfl
      ·rw[enx]
       have:verF nm' (n,.put kind nm' body)=some (kind,n,body):=if_pos rfl
       rw[this]
       exact Paired.snoc hv ⟨ear,hC⟩
     ·have e':¬ nm'=name:=fun z=>hd (decide_eq_true z)
      refine ⟨vs,s3,h3,Nat.le_succ_of_le hvl,?_⟩
      rw[enx]
      have:verF name (n,.put kind nm' body)=none:=if_neg e'
      rw[this]
      show VL t M H1 name vs (_++[])
      rw[List.append_nil];exact hv
    | drop nm'=>
     refine iteF (iteF ?_)
     refine ⟨vs,s3,h3,Nat.le_succ_of_le hvl,?_⟩
     rw[enx]
     show VL t M H1 name vs (_++[])
     rw[List.append_nil];exact hv
    | back k=>cases hmem
  ·rintro H3 ⟨vs,s3,h3,hvl,hv⟩
   rw[List.length_map,hcl,List.take_of_length_le (Nat.le_refl _)] at hv
   refine q D H3 vs ((s1.trans s2).trans s3) ((s1.trans s2).free hD) h3 ?_
   rw[versions_eq]
   exact Paired.mapP hv fun c x ⟨ear,hc⟩=>⟨ear,hc.keep (F:=[]) (.of_same (s2.trans s3)) (by simp) fun y hy=>.inl hy⟩
end
end Kb
namespace Kb
open Md33
def last20 (b:Bytes):Bytes:=b.drop (b.length-20)
inductive Runs (key:Option Bytes) (salt:Bytes):Bytes→List Entry→List Nat→Prop
 | nil:(headOf key salt).length=44→Runs key salt (headOf key salt) [] [44]
 | snoc {bs:Bytes} {es:List Entry} {L:List Nat} (e:Entry):Runs key salt bs es L→e.fits→(written key (last20 bs) (es.length+1) e).length=Qu e.plain.length→
   Runs key salt (bs++written key (last20 bs) (es.length+1) e) (es++[e]) (L++[(bs++written key (last20 bs) (es.length+1) e).length])
theorem Xe {α:Type} (l:List α) (x:α):(l++[x]).length=l.length+1:=by rw[List.length_append];rfl
variable {key:Option Bytes} {salt:Bytes}
theorem Runs.len {bs:Bytes} {es:List Entry} {L:List Nat} (h:Runs key salt bs es L):L.length=es.length+1:=by
 induction h with
 | nil _=>rfl
 | snoc e h hf hl ih=>rw[Xe,Xe,ih]
theorem Runs.le {bs:Bytes} {es:List Entry} {L:List Nat} (h:Runs key salt bs es L):∀x∈L,x≤bs.length:=by
 induction h with
 | nil h=>intro x hx;rw[List.mem_singleton.mp hx,h];exact Nat.le_refl _
 | snoc e h hf hl ih=>
  intro x hx
  rcases List.mem_append.mp hx with hx|hx
  ·rw[List.length_append];exact Nat.le_add_right_of_le (ih x hx)
  ·rw[List.mem_singleton.mp hx];exact Nat.le_refl _
theorem Runs.end {bs:Bytes} {es:List Entry} {L:List Nat} (h:Runs key salt bs es L):L.getD es.length 0=bs.length:=by
 cases h with
 | nil h=>exact h.symm
 | snoc e h hf hl=>
  rw[List.getD_eq_getElem?_getD,Xe,List.getElem?_append_right (by rw[h.len];exact Nat.le_refl _),h.len]
  simp
theorem Runs.take {bs:Bytes} {es:List Entry} {L:List Nat} (h:Runs key salt bs es L):∀i,i≤es.length→Runs key salt (bs.take (L.getD i 0)) (es.take i) (L.take (i+1)):=by
 induction h with
 | nil h=>
  intro i hi
  have e:i=0:=Nat.le_zero.mp hi
  subst e
  show Runs key salt ((headOf key salt).take 44) [] [44]
  rw[List.take_of_length_le (by rw[h];exact Nat.le_refl _)]
  exact .nil h
 | @snoc bs es L e h hf hl ih=>
  intro i hi
  by_cases hi':i≤es.length
  ·have hL:i<L.length:=by rw[h.len];omega
   have e1:(L++[(bs++written key (last20 bs) (es.length+1) e).length]).getD i 0=L.getD i 0:=by
    rw[List.getD_eq_getElem?_getD,List.getElem?_append_left hL,List.getD_eq_getElem?_getD]
   have hle:L.getD i 0≤bs.length:=h.le _ (by rw[List.getD_eq_getElem?_getD,List.getElem?_eq_getElem hL];exact List.getElem_mem hL)
   rw[e1,List.take_append_of_le_length hle,List.take_append_of_le_length hi',List.take_append_of_le_length (by omega)]
   exact ih i hi'
  ·have e1:i=es.length+1:=by
    rw[Xe] at hi
    omega
   have hs:=Runs.snoc e h hf hl
   have e2:=hs.end
   have hl2:=hs.len
   rw[Xe] at e2 hl2
   rw[Xe] at hl2
   rw[e1]
   have e3:(L++[(bs++written key (last20 bs) (es.length+1) e).length]).getD (es.length+1) 0=(bs++written key (last20 bs) (es.length+1) e).length:=e2
   rw[e3,List.take_of_length_le (Nat.le_refl _),List.take_of_length_le (by rw[Xe];exact Nat.le_refl _),List.take_of_length_le (by rw[Xe,hl2];exact Nat.le_refl _)]
   exact hs
theorem Runs.det {bs:Bytes} {es:List Entry} {L:List Nat} (h:Runs key salt bs es L):∀{bs':Bytes} {L':List Nat},Runs key salt bs' es L'→bs=bs'∧L=L':=by
 induction h with
 | nil h=>
  intro bs' L' h'
  generalize he:([]:List Entry)=es' at h'
  cases h' with
  | nil _=>exact ⟨rfl,rfl⟩
  | snoc e _ _ _=>exact absurd he.symm (by simp)
 | @snoc bs es L e h hf hl ih=>
  intro bs' L' h'
  generalize he:es++[e]=es' at h'
  cases h' with
  | nil _=>exact absurd he (by simp)
  | @snoc bs2 es2 L2 e2 h2 hf2 hl2=>
   obtain ⟨a,b⟩:=List.append_inj' he rfl
   have b':e=e2:=by simpa using b
   subst a b'
   obtain ⟨c,d⟩:=ih h2
   subst c d
   exact ⟨rfl,rfl⟩
inductive Cut:Nat→Bytes→List Nat→Prop
 | nil (a:Nat):Cut a [] []
 | cons {a:Nat} {w r:Bytes} {L:List Nat}:w.length=28+16*blocks (ofLow (w.take 4))→Cut (a+w.length) r L→Cut a (w++r) ((a+w.length)::L)
theorem Cut.snoc {a:Nat} {r w:Bytes} {L:List Nat} (h:Cut a r L) (hw:w.length=28+16*blocks (ofLow (w.take 4))):Cut a (r++w) (L++[a+(r++w).length]):=by
 induction h with
 | nil a=>
  have:=Cut.cons (a:=a) hw (Cut.nil (a+w.length))
  simpa using this
 | @cons a v r L hv h ih=>
  rw[List.append_assoc,List.cons_append]
  have e:a+(v++(r++w)).length=a+v.length+(r++w).length:=by rw[List.length_append];omega
  rw[e]
  exact .cons hv ih
theorem Cut.ends {a:Nat} {r:Bytes} {L:List Nat} (h:Cut a r L):∀{k:Nat},L.length<k→ends k a r=L:=by
 induction h with
 | nil a=>
  intro k hk
  cases k with
  | zero=>rfl
  | succ k=>rfl
 | @cons a w r L hw h ih=>
  intro k hk
  cases k with
  | zero=>exact absurd hk (Nat.not_lt_zero _)
  | succ k=>
   have h4:(w++r).take 4=w.take 4:=List.take_append_of_le_length (by omega)
   have hne:(w++r).isEmpty=false:=by
    cases w with
    | nil=>simp at hw;omega
    | cons x w=>rfl
   unfold Md33.ends
   rw[if_neg (by rw[hne];exact Bool.false_ne_true)]
   dsimp only
   rw[h4,← hw]
   congr 1
   rw[List.drop_append_of_le_length (Nat.le_refl _),List.drop_of_length_le (Nat.le_refl _),List.nil_append]
   exact ih (by simpa using hk)
theorem ofLow_low4 {n:Nat} (h:n<2^32):ofLow (low 4 n)=n:=by
 show n/256^0%256+256*(n/256^1%256+256*(n/256^2%256+256*(n/256^3%256+256*0)))=n
 have e0:(256:Nat)^0=1:=rfl
 have e1:(256:Nat)^1=256:=rfl
 have e2:(256:Nat)^2=65536:=rfl
 have e3:(256:Nat)^3=16777216:=rfl
 rw[e0,e1,e2,e3]
 omega
theorem plain_len {e:Entry} (h:e.fits):e.plain.length≤65603:=by
 cases e with
 | put kind name body=>
  obtain ⟨_,_,_,_,h5,h6⟩:=h
  unfold NAME at h5
  unfold BODY at h6
  show (1::kind::name.length::(name++body)).length≤_
  simp only[List.length_cons,List.length_append]
  omega
 | drop name=>
  obtain ⟨_,_,h3⟩:=h
  unfold NAME at h3
  show (2::name.length::name).length≤_
  simp only[List.length_cons]
  omega
 | back n=>
  show (3::low 4 n).length≤_
  simp only[List.length_cons,Zy]
  omega
theorem written_cut {key:Option Bytes} {s:Bytes} {n:Nat} {e:Entry} (hf:e.fits) (hl:(written key s n e).length=Qu e.plain.length):(written key s n e).length=28+16*blocks (ofLow ((written key s n e).take 4)):=by
 have h4:(written key s n e).take 4=low 4 e.plain.length:=by
  unfold written
  dsimp only
  rw[List.append_assoc,List.take_append_of_le_length (by rw[Zy];exact Nat.le_refl _),List.take_of_length_le (by rw[Zy];exact Nat.le_refl _)]
 rw[h4,ofLow_low4 (Nat.lt_of_le_of_lt (plain_len hf) (by decide)),hl]
 rfl
theorem Runs.cut {bs:Bytes} {es:List Entry} {L:List Nat} (h:Runs key salt bs es L):44≤bs.length∧∃L',L=44::L'∧Cut 44 (bs.drop 44) L':=by
 induction h with
 | nil h=>exact ⟨by rw[h];exact Nat.le_refl _,[],rfl,by rw[List.drop_of_length_le (by rw[h];exact Nat.le_refl _)];exact .nil 44⟩
 | @snoc bs es L e h hf hl ih=>
  obtain ⟨h44,L',rfl,hc⟩:=ih
  refine ⟨by rw[List.length_append];omega,L'++[_],rfl,?_⟩
  rw[List.drop_append_of_le_length h44]
  have:=hc.snoc (written_cut hf hl)
  have e:44+(bs.drop 44++written key (last20 bs) (es.length+1) e).length=(bs++written key (last20 bs) (es.length+1) e).length:=by
   rw[List.length_append,List.length_append,List.length_drop];omega
  rw[e] at this
  exact this
theorem Runs.ends {bs:Bytes} {es:List Entry} {L:List Nat} (h:Runs key salt bs es L):L=44::Md33.ends (es.length+1) 44 (bs.drop 44):=by
 obtain ⟨_,L',rfl,hc⟩:=h.cut
 have hl:=h.len
 rw[hc.ends (by have:L'.length+1=es.length+1:=hl;omega)]
structure GB (b:Book) (es:List Entry) (L:List Nat):Prop where
 good:Good b
 runs:Runs b.key b.salt b.bytes es L
 cnt:es.length=b.count
 ways:∀st∈b.stands,∀x∈st.way,es[x.1-1]?=some x.2
 valid:∀st∈b.stands,ValidW st.way
theorem gb_begun {key:Option Bytes} {salt:Bytes} (hk:∀k,key=some k→B16 k) (hs:B16 salt):GB (begun key salt) [] [44]:=by
 refine ⟨good_begun hk hs,.nil (J4 hk hs).1,rfl,fun st hst x hx=>?_,fun st hst=>?_⟩
 ·have e:st=Stand.mk [] []:=by simpa[begun] using hst
  subst e
  cases hx
 ·have e:st=Stand.mk [] []:=by simpa[begun] using hst
  subst e
  intro i n e h
  cases h
theorem validW_snoc {w:Way} (h:ValidW w) {n:Nat} {e:Entry} (hp:isPD e=true) (hd:∀name,e=.drop name→∃r∈replay w,r.name=name):ValidW (w++[(n,e)]):=by
 intro i m f hi
 by_cases hlt:i<w.length
 ·rw[List.getElem?_append_left hlt] at hi
  rw[List.take_append_of_le_length (Nat.le_of_lt hlt)]
  exact h i m f hi
 ·have hi2:i=w.length:=by
   have:=(List.getElem?_eq_some_iff.mp hi).1
   rw[List.length_append] at this
   have:i<w.length+1:=this
   omega
  subst hi2
  rw[List.getElem?_append_right (Nat.le_refl _),Nat.sub_self] at hi
  have e1:(n,e)=(m,f):=Option.some.inj hi
  have e2:e=f:=congrArg Prod.snd e1
  subst e2
  rw[List.take_append_of_le_length (Nat.le_refl _),List.take_of_length_le (Nat.le_refl _)]
  exact ⟨hp,hd⟩
theorem gb_added {b c:Book} {es:List Entry} {L:List Nat} (g:GB b es L) {e:Entry} (hf:e.fits) (h:added b e=some c):GB c (es++[e]) (L++[c.bytes.length]):=by
 obtain ⟨g2,c2,l2⟩:=good_added g.good hf h
 obtain ⟨s,ha,hc⟩:=added_some h
 have hw:=(written_all g.good (n:=b.count+1) hf).1
 have hcb:c.bytes=b.bytes++written b.key b.last (b.count+1) e:=by rw[hc]
 have hck:c.key=b.key:=by rw[hc]
 have hcs:c.salt=b.salt:=by rw[hc]
 have hcst:c.stands=b.stands++[s]:=by rw[hc]
 have hlast:last20 b.bytes=b.last:=rfl
 refine ⟨g2,?_,by rw[List.length_append,g.cnt,c2];rfl,fun st hst x hx=>?_,fun st hst=>?_⟩
 ·have:=Runs.snoc e g.runs hf (by rw[hlast,g.cnt];exact hw)
  rw[hlast,g.cnt,← hcb,← hck,← hcs] at this
  exact this
 ·have old:∀st'∈b.stands,∀x∈st'.way,(es++[e])[x.1-1]?=some x.2:=fun st' h' x hx=>by
   have:=g.ways st' h' x hx
   rw[List.getElem?_append_left (List.getElem?_eq_some_iff.mp this).1]
   exact this
  rw[hcst] at hst
  rcases List.mem_append.mp hst with hst|hst
  ·exact old st hst x hx
  ·rw[List.mem_singleton.mp hst] at hx
   have new:(es++[e])[b.count+1-1]?=some e:=by
    rw[Nat.add_sub_cancel,← g.cnt,List.getElem?_append_right (Nat.le_refl _),Nat.sub_self];rfl
   cases e with
   | put kind name body=>
    have e1:(⟨withRecord ⟨name,kind,b.count+1,body⟩ b.stand.records,b.stand.way++[(b.count+1,.put kind name body)]⟩:Stand)=s:=Option.some.inj ha
    rw[← e1] at hx
    rcases List.mem_append.mp hx with hx|hx
    ·exact old _ (Yb g.good.ne) x hx
    ·rw[List.mem_singleton.mp hx];exact new
   | drop name=>
    have ha':(if (b.stand.find name).isSome=true then some (⟨b.stand.records.filter fun (r:Record)=>r.name != name,b.stand.way++[(b.count+1,.drop name)]⟩:Stand) else none)=some s:=ha
    split at ha'
    ·rw[← Option.some.inj ha'] at hx
     rcases List.mem_append.mp hx with hx|hx
     ·exact old _ (Yb g.good.ne) x hx
     ·rw[List.mem_singleton.mp hx];exact new
    ·cases ha'
   | back k=>
    have ha':b.stands[k]?=some s:=ha
    exact old _ (List.mem_of_getElem? ha') x hx
 ·rw[hcst] at hst
  rcases List.mem_append.mp hst with hst|hst
  ·exact g.valid st hst
  ·rw[List.mem_singleton.mp hst]
   have hv:=g.valid _ (Yb g.good.ne)
   have hr:=(g.good.st _ (Yb g.good.ne)).rcs
   cases e with
   | put kind name body=>
    have e1:(⟨withRecord ⟨name,kind,b.count+1,body⟩ b.stand.records,b.stand.way++[(b.count+1,.put kind name body)]⟩:Stand)=s:=Option.some.inj ha
    rw[← e1]
    exact validW_snoc hv rfl fun _ z=>by cases z
   | drop name=>
    have ha':(if (b.stand.find name).isSome=true then some (⟨b.stand.records.filter fun (r:Record)=>r.name != name,b.stand.way++[(b.count+1,.drop name)]⟩:Stand) else none)=some s:=ha
    split at ha'
    ·rename_i hfd
     rw[← Option.some.inj ha']
     refine validW_snoc hv rfl fun nm z=>?_
     cases z
     obtain ⟨r,hr'⟩:=Option.isSome_iff_exists.mp hfd
     obtain ⟨h1,h2⟩:=find_some hr'
     exact ⟨r,by rw[← hr];exact h1,h2⟩
    ·cases ha'
   | back k=>
    have ha':b.stands[k]?=some s:=ha
    exact g.valid _ (List.mem_of_getElem? ha')
def putOf (r:Record):Entry:=.put r.kind r.name r.body
theorem gb_sq {b:Book} {es:List Entry} {L:List Nat} (g:GB b es L):∀i,i≤b.stand.records.length→∃L',GB (sqTo b i) ((b.stand.records.take i).map putOf) L'
 | 0,_=>⟨_,gb_begun g.good.key g.good.salt⟩
 | i+1,h=>by
  obtain ⟨L',g'⟩:=gb_sq g i (by omega)
  have hi:i<b.stand.records.length:=by omega
  have hr:b.stand.records[i]?=some (b.stand.records[i]'hi):=List.getElem?_eq_getElem hi
  have hf:=(rec_fits (g.good.st _ (Yb g.good.ne)) (List.getElem_mem hi)).1
  have:=gb_added g' hf (sqTo_succ hr)
  refine ⟨L'++[(sqTo b (i+1)).bytes.length],?_⟩
  rw[List.take_add_one,hr,List.map_append]
  exact this
theorem kept_prefix {b:Book} {es:List Entry} {L L':List Nat} (g:GB b es L) {k:Nat} (hk:k≤b.stand.records.length) (hp:∀i r,i<k→b.stand.records[i]?=some r→r.number=i+1) (g':GB (sqTo b k) ((b.stand.records.take k).map putOf) L'):
  k≤es.length∧b.bytes.take (L.getD k 0)=(sqTo b k).bytes∧L.take (k+1)=L':=by
 have hget:∀i,i<k→es[i]?=(b.stand.records[i]?).map putOf:=by
  intro i hi
  have hlt:i<b.stand.records.length:=by omega
  obtain ⟨r,hr⟩:∃r,b.stand.records[i]?=some r:=⟨_,List.getElem?_eq_getElem hlt⟩
  have hm:r∈b.stand.records:=List.mem_of_getElem? hr
  have hm':r∈replay b.stand.way:=by rw[← (g.good.st _ (Yb g.good.ne)).rcs];exact hm
  have hw:=g.ways _ (Yb g.good.ne) _ (mem_replay hm')
  rw[hp i r hi hr] at hw
  rw[hr]
  exact hw
 have hke:k≤es.length:=by
  cases k with
  | zero=>exact Nat.zero_le _
  | succ k=>
   have:=hget k (by omega)
   rw[List.getElem?_eq_getElem (show k<b.stand.records.length by omega)] at this
   exact (List.getElem?_eq_some_iff.mp this).1
 have he:es.take k=(b.stand.records.take k).map putOf:=by
  apply List.ext_getElem?
  intro i
  by_cases hi:i<k
  ·rw[List.getElem?_take_of_lt hi,hget i hi,List.getElem?_map,List.getElem?_take_of_lt hi]
  ·rw[List.getElem?_eq_none (by rw[List.length_take];omega),List.getElem?_eq_none (by rw[List.length_map,List.length_take];omega)]
 have hr:=g.runs.take k hke
 rw[he] at hr
 have hr':=g'.runs
 rw[(sqTo_key k).1,(sqTo_key k).2] at hr'
 obtain ⟨a,c⟩:=hr.det hr'
 exact ⟨hke,a,c⟩
end Kb
namespace Kb
open PySem L2
structure VA where
 v:Addr
 co:Addr
 le:Addr
 h:Addr
 en:Addr
 ch:Addr
 sd:Addr
def RowsO (M:List Addr) (H:Hp) (p:Addr) (rows:List (List Nat)):Prop:=∃rs:List Addr,Off M H p (.lst (rs.map V.ref))∧rs.length=rows.length∧∀(i:Nat) (x:Addr),rs[i]?=some x→∃row,rows[i]?=some row∧Off M H x (.lst (nats row))
theorem RowsO.rows {M:List Addr} {H:Hp} {p:Addr} {rows:List (List Nat)} (h:RowsO M H p rows):Rows H p rows:=by
 obtain ⟨rs,h1,h2,h3⟩:=h
 exact ⟨rs,h1.1,h2,fun i x hx=>let ⟨row,a,b⟩:=h3 i x hx;⟨row,a,b.1⟩⟩
theorem RowsO.keep {M M' F:List Addr} {H H':Hp} {p:Addr} {rows:List (List Nat)} (h:RowsO M H p rows) (k:Qr F H H') (hF:∀x∈F,x∈M) (hM:∀x∈M',x∈M∨H x=none):RowsO M' H' p rows:=by
 obtain ⟨rs,h1,h2,h3⟩:=h
 exact ⟨rs,h1.keep k hF hM,h2,fun i x hx=>let ⟨row,a,b⟩:=h3 i x hx;⟨row,a,b.keep k hF hM⟩⟩
def SchedO (M:List Addr) (H:Hp) (v:V):Option (List Nat)→Prop
 | none=>v=.non
 | some k=>∃sc,v=.ref sc∧RowsO M H sc ((List.range 11).map (roundK k))∧B16 k
theorem SchedO.sched {M:List Addr} {H:Hp} {v:V} {key:Option (List Nat)} (h:SchedO M H v key):Sched H v key:=by
 cases key with
 | none=>exact h
 | some k=>obtain ⟨sc,e,r,b⟩:=h;exact ⟨sc,e,r.rows,b⟩
theorem SchedO.keep {M M' F:List Addr} {H H':Hp} {v:V} {key:Option (List Nat)} (h:SchedO M H v key) (k:Qr F H H') (hF:∀x∈F,x∈M) (hM:∀x∈M',x∈M∨H x=none):SchedO M' H' v key:=by
 cases key with
 | none=>exact h
 | some k'=>obtain ⟨sc,e,r,b⟩:=h;exact ⟨sc,e,r.keep k hF hM,b⟩
def volF (sv:V) (co le h:Addr):List (Str×V):=[("schedule",sv),("content",.ref co),("lengths",.ref le),("history",.ref h)]
structure Vol0 (t:Adr) (M:List Addr) (H:Hp) (a:VA) (key:Option (List Nat)) (bytes L:List Nat) (sts:List Md33.Stand):Prop where
 mv:a.v∈M
 mco:a.co∈M
 mle:a.le∈M
 ov:∃dx sv,H a.v=some (.ins t.C_Volume dx (volF sv a.co a.le a.h))∧SchedO M H sv key
 oc:H a.co=some (.lst (nats bytes))
 ol:H a.le=some (.lst (nats L))
 n1:a.co≠a.le
 n2:a.co≠a.en
 n3:a.le≠a.en
 hst:Hst t M H a.h a.en a.ch a.sd sts
section
variable {t:Adr} {M M' F:List Addr} {H H':Hp} {a:VA} {key:Option (List Nat)} {bytes L bytes' L':List Nat} {sts sts':List Md33.Stand}
theorem Vol0.dv (x:Vol0 t M H a key bytes L sts):a.v≠a.co∧a.v≠a.le∧a.v≠a.h∧a.v≠a.en∧a.v≠a.ch∧a.v≠a.sd:=by
 obtain ⟨dx,sv,ov,_⟩:=x.ov
 obtain ⟨dxh,oh⟩:=x.hst.hen.oh
 obtain ⟨kvs,o1,_⟩:=x.hst.hen.oc
 obtain ⟨kv2,o2,_⟩:=x.hst.os
 refine ⟨fun z=>?_,fun z=>?_,fun z=>?_,fun z=>?_,fun z=>?_,fun z=>?_⟩
 ·rw[z,x.oc] at ov;cases ov
 ·rw[z,x.ol] at ov;cases ov
 ·rw[z,oh] at ov
  have h1:=Option.some.inj ov
  injection h1 with _ _ h3
  exact absurd (congrArg List.length h3) (show ¬ (3:Nat)=4 by decide)
 ·rw[z,x.hst.hen.oe] at ov;cases ov
 ·rw[z,o1] at ov;cases ov
 ·rw[z,o2] at ov;cases ov
theorem Vol0.dc (x:Vol0 t M H a key bytes L sts):a.co≠a.h∧a.co≠a.ch∧a.co≠a.sd∧a.le≠a.h∧a.le≠a.ch∧a.le≠a.sd:=by
 obtain ⟨dxh,oh⟩:=x.hst.hen.oh
 obtain ⟨kvs,o1,_⟩:=x.hst.hen.oc
 obtain ⟨kv2,o2,_⟩:=x.hst.os
 have oc:=x.oc
 have ol:=x.ol
 refine ⟨fun z=>?_,fun z=>?_,fun z=>?_,fun z=>?_,fun z=>?_,fun z=>?_⟩
 ·rw[z,oh] at oc;cases oc
 ·rw[z,o1] at oc;cases oc
 ·rw[z,o2] at oc;cases oc
 ·rw[z,oh] at ol;cases ol
 ·rw[z,o1] at ol;cases ol
 ·rw[z,o2] at ol;cases ol
theorem Vol0.same (x:Vol0 t M H a key bytes L sts) (s:Same H H'):Vol0 t M H' a key bytes L sts:=by
 obtain ⟨dx,sv,ov,os⟩:=x.ov
 exact ⟨x.mv,x.mco,x.mle,⟨dx,sv,s _ _ ov,os.keep (F:=[]) (.of_same s) (by simp) fun y hy=>.inl hy⟩,s _ _ x.oc,s _ _ x.ol,x.n1,x.n2,x.n3,x.hst.same s⟩
theorem Vol0.hist (x:Vol0 t M H a key bytes L sts) {sd':Addr} (k:Qr F H H') (hF:∀y∈F,y=a.h∨y=a.en∨y=a.ch∨y=a.sd) (hsub:∀y∈M,y∈M') (hM:∀y∈M',y∈M∨H y=none)
  (X:Hst t M' H' a.h a.en a.ch sd' sts'):Vol0 t M' H' { a with sd:=sd' } key bytes L sts':=by
 obtain ⟨dx,sv,ov,os⟩:=x.ov
 obtain ⟨v1,v2,v3,v4,v5,v6⟩:=x.dv
 obtain ⟨c1,c2,c3,c4,c5,c6⟩:=x.dc
 have hFM:∀y∈F,y∈M:=fun y hy=>by
  rcases hF y hy with e|e|e|e<;>rw[e]
  ·exact x.hst.hen.mh
  ·exact x.hst.hen.me
  ·exact x.hst.hen.mc
  ·exact x.hst.hen.ms
 refine ⟨hsub _ x.mv,hsub _ x.mco,hsub _ x.mle,⟨dx,sv,k _ _ (fun z=>?_) ov,os.keep k hFM hM⟩,k _ _ (fun z=>?_) x.oc,k _ _ (fun z=>?_) x.ol,x.n1,x.n2,x.n3,X⟩
 ·rcases hF _ z with e|e|e|e
  ·exact v3 e
  ·exact v4 e
  ·exact v5 e
  ·exact v6 e
 ·rcases hF _ z with e|e|e|e
  ·exact c1 e
  ·exact x.n2 e
  ·exact c2 e
  ·exact c3 e
 ·rcases hF _ z with e|e|e|e
  ·exact c4 e
  ·exact x.n3 e
  ·exact c5 e
  ·exact c6 e
theorem Vol0.cont (x:Vol0 t M H a key bytes L sts) (k:Qr [a.co,a.le] H H') (h1:H' a.co=some (.lst (nats bytes'))) (h2:H' a.le=some (.lst (nats L'))):Vol0 t M H' a key bytes' L' sts:=by
 obtain ⟨dx,sv,ov,os⟩:=x.ov
 obtain ⟨v1,v2,v3,v4,v5,v6⟩:=x.dv
 obtain ⟨c1,c2,c3,c4,c5,c6⟩:=x.dc
 refine ⟨x.mv,x.mco,x.mle,⟨dx,sv,k _ _ (by simp[v1,v2]) ov,os.keep k (mem2 x.mco x.mle) fun y hy=>.inl hy⟩,h1,h2,x.n1,x.n2,x.n3,x.hst.keepF k (mem2 x.mco x.mle) (mem2 (by rw[h1];simp) (by rw[h2];simp)) (by simp[Ne.symm c1,Ne.symm c4]) (by simp[Ne.symm x.n2,Ne.symm x.n3]) (by simp[Ne.symm c2,Ne.symm c5]) (by simp[Ne.symm c3,Ne.symm c6])⟩
end
theorem Runs.many {key:Option Md33.Bytes} {salt bs:Md33.Bytes} {es:List Md33.Entry} {L:List Nat} (h:Runs key salt bs es L):44+28*es.length≤bs.length:=by
 induction h with
 | nil h=>rw[h];exact Nat.le_refl _
 | snoc e h hf hl ih=>
  rw[Xe,List.length_append,hl]
  unfold Qu
  omega
structure Vol (t:Adr) (M:List Addr) (H:Hp) (a:VA) (b:Md33.Book):Prop where
 ex:∃es L,Vol0 t M H a b.key b.bytes L b.stands∧GB b es L
 len:b.bytes.length≤1048576
theorem rec_many:∀l:List Md33.Record,28*l.length≤weight l
 | []=>Nat.zero_le _
 | r::l=>by
  have:=rec_many l
  rw[Ya,List.length_cons]
  unfold recLen Qu
  omega
theorem GB.few {b:Md33.Book} {es:List Md33.Entry} {L:List Nat} (g:GB b es L) (hl:b.bytes.length≤1048576):b.stands.length≤40000∧b.stands.length=b.count+1∧∀st∈b.stands,st.records.length≤40000:=by
 have h1:=g.runs.many
 have h2:=g.cnt
 have h3:0<b.stands.length:=List.length_pos_iff.mpr g.good.ne
 have h4:b.count=b.stands.length-1:=rfl
 refine ⟨by omega,by omega,fun st hst=>?_⟩
 have h5:=(g.good.st st hst).wt
 have h6:=rec_many st.records
 omega
section
variable {P:Program} {w:World} {K:PySem.W.Frag} {mg:Str→Option Value} {base:Heap} {t:Adr}
def sp_Volume_last_sum (t:Adr):Sp:=fun vs H Q _=>∃(M:List Addr) (a:VA) (key:Option (List Nat)) (bytes L:List Nat) (sts:List Md33.Stand),vs=[.ref a.v]∧Vol0 t M H a key bytes L sts∧∀r H',Same H H'→H r=none→H' r=some (.lst (nats (last20 bytes)))→Q (.ref r) H'
theorem Xc (T:Txt K mg t):OkM P w K mg base 1 t.C_Volume "last_sum" ["self"] (sp_Volume_last_sum t):=by
 refine okM T.d_Volume_last_sum sc_Volume_last_sum (fun vs H Q E h=>?_) (fun f cdv A outer s H vs Q E hr h=>?_)
 ·obtain ⟨M,a,key,bytes,L,sts,rfl,X,q⟩:=h
  rfl
 ·obtain ⟨M,a,key,bytes,L,sts,rfl,X,q⟩:=h
  refine ⟨_,(Ze (Zj (Z1 (Z0 (K:=K) rfl) (Zi (K:=K) rfl (pv 0) rfl) (Zv (pe_un un_neg (pgi rfl T.c_SUM_BYTES))) Yt))),?_⟩
  obtain ⟨dx,sv,ov,os⟩:=X.ov
  refine ⟨_,rfl,_,_,_,_,_,rfl,ov,T.k_Volume,T.na_Volume_content,rfl,_,rfl,_,rfl,a.co,_,rfl,SqL.of X.oc,fun p hp=>?_⟩
  rw[show (some (-(20:Int)))=some (-((20:Nat):Int)) from rfl,cut_last (by decide)]
  exact q p _ (Zk hp) hp Zc
def sp_Volume_add_entry (t:Adr):Sp:=fun vs H Q _=>∃(M:List Addr) (a:VA) (e:Addr) (key:Option (List Nat)) (bytes L en:List Nat) (sts:List Md33.Stand),vs=[.ref a.v,.ref e]∧Vol0 t M H a key bytes L sts∧H e=some (.lst (nats en))∧e≠a.co∧bytes.length+en.length≤2000000∧L.length≤1000000 ∧
 ∀H',Qr [a.co,a.le] H H'→Vol0 t M H' a key (bytes++en) (L++[(bytes++en).length]) sts→Q .non H'
theorem Qo (T:Txt K mg t):OkM P w K mg base 1 t.C_Volume "add_entry" ["self","entry"] (sp_Volume_add_entry t):=by
 refine okM T.d_Volume_add_entry sc_Volume_add_entry (fun vs H Q E h=>?_) (fun f cdv A outer s H vs Q E hr h=>?_)
 ·obtain ⟨M,a,e,key,bytes,L,en,sts,rfl,X,he,hne,hl1,hl2,q⟩:=h
  rfl
 ·obtain ⟨M,a,e,key,bytes,L,en,sts,rfl,X,he,hne,hl1,hl2,q⟩:=h
  refine ⟨_,(Zb (Z6 (Yu (K:=K) rfl PySem.F.plainAttrs_list PySem.F.slot_list_extend PySem.F.type_list_extend J2 (Zi (K:=K) rfl (pv 0) rfl) (Za (pv 1) Zd)))
   (Ze (Z6 (Yu (K:=K) rfl PySem.F.plainAttrs_list PySem.F.slot_list_append PySem.F.type_list_append Yk (Zi (K:=K) rfl (pv 0) rfl) (Za (Zs (Zq (K:=K) rfl) rfl T.n_len PySem.boot_len (Za (Zi (K:=K) rfl (pv 0) rfl) Zd)) Zd))))),?_⟩
  obtain ⟨dx,sv,ov,os⟩:=X.ov
  obtain ⟨v1,v2,v3,v4,v5,v6⟩:=X.dv
  refine ⟨_,rfl,_,_,_,_,_,rfl,ov,T.k_Volume,T.na_Volume_content,rfl,Yg X.oc,_,rfl,_,_,_,_,rfl,rfl,X.oc,he,by rw[Zh,Zh,Qt];omega,?_⟩
  rw[← Z2]
  have k1:Qr [a.co,a.le] H (upd H a.co (.lst (nats (bytes++en)))):=Qr.upd (by simp)
  have c1:(upd H a.co (.lst (nats (bytes++en)))) a.co=some (.lst (nats (bytes++en))):=Zc
  have l1:(upd H a.co (.lst (nats (bytes++en)))) a.le=some (.lst (nats L)):=(Zn (Ne.symm X.n1)).trans X.ol
  have ov1:=k1 _ _ (by simp[v1,v2]) ov
  generalize upd H a.co (.lst (nats (bytes++en)))=G1 at *
  refine ⟨_,rfl,_,_,_,_,_,rfl,ov1,T.k_Volume,T.na_Volume_lengths,rfl,Yg l1,_,rfl,_,_,_,_,_,rfl,ov1,T.k_Volume,T.na_Volume_content,rfl,a.co,_,rfl,.inl (SqL.of c1),_,_,_,rfl,rfl,l1,by rw[Zh,Qt];omega,?_⟩
  rw[Zh]
  have k2:Qr [a.co,a.le] G1 (upd G1 a.le (.lst (nats L++[V.int (bytes++en).length]))):=Qr.upd (by simp)
  refine q _ (k1.trans k2) (X.cont (k1.trans k2) ((Zn X.n1).trans c1) ?_)
  rw[Zc,Z2];rfl
theorem entryB_len {key:Option (List Nat)} (hk:∀k,key=some k→B16 k) {bf:List Nat} (hb:∀x∈bf,x<256) (hl:bf.length=20) {n:Nat} {p:List Nat} (hp:∀x∈p,x<256):(entryB key bf n p).length=Qu p.length:=by
 obtain ⟨h1,_⟩:=shutText_all hk (s:=bf) hb (by omega) (filled_lt hp) (filled_length p)
 unfold entryB textOf Qu
 simp only[List.length_append,Zy,h1,Xo];omega
theorem SchedO.key {M:List Addr} {H:Hp} {v:V} {key:Option (List Nat)} (h:SchedO M H v key):∀k,key=some k→B16 k:=by
 intro k e
 rw[e] at h
 obtain ⟨_,_,_,b⟩:=h
 exact b
def sp_Volume_write (t:Adr):Sp:=fun vs H Q _=>∃(M:List Addr) (a:VA) (p:Addr) (key:Option (List Nat)) (bytes L pl:List Nat) (sts:List Md33.Stand),vs=[.ref a.v,.ref p]∧Vol0 t M H a key bytes L sts∧H p=some (.lst (nats pl))∧44≤bytes.length∧bytes.length≤1048576∧(∀x∈bytes,x<256)∧pl.length≤70000∧(∀x∈pl,x<256)∧L.length≤1000000∧sts.length≤1000000 ∧
 (1048576<bytes.length+Qu pl.length→Q (.bl false) H)∧(bytes.length+Qu pl.length≤1048576→∀H',Qr [a.co,a.le] H H'→Vol0 t M H' a key (bytes++entryB key (last20 bytes) sts.length pl) (L++[(bytes++entryB key (last20 bytes) sts.length pl).length]) sts→Q (.bl true) H')
theorem Qj (T:Txt K mg t):OkM P w K mg base 6 t.C_Volume "write" ["self","plain"] (sp_Volume_write t):=by
 refine okM T.d_Volume_write sc_Volume_write (fun vs H Q E h=>?_) (fun f cdv A outer s H vs Q E hr h=>?_)
 ·obtain ⟨M,a,p,key,bytes,L,pl,sts,rfl,X,hp,hb1,hb2,hb3,hp1,hp2,hL,hs,q1,q2⟩:=h
  rfl
 ·obtain ⟨M,a,p,key,bytes,L,pl,sts,rfl,X,hp,hb1,hb2,hb3,hp1,hp2,hL,hs,q1,q2⟩:=h
  refine ⟨_,(Zb (Z4 (Zu op_gt (Zm Z5 (Zs (Zq (K:=K) rfl) rfl T.n_len PySem.boot_len (Za (Zi (K:=K) rfl (pv 0) rfl) Zd)) (pf (ok_entry_length T) hr (Za (Zs (Zq (K:=K) rfl) rfl T.n_len PySem.boot_len (Za (pv 1) Zd)) Zd))) (pgi rfl T.c_MOST_BOOK_BYTES) (Qv _)) (Ze (Zj Jz)) Zr)
   (Zb (Zo (i:=2) sc_Volume_write.nd rfl (Or.inl rfl) (Zm Z5 (pm0 (Zi (K:=K) rfl (pv 0) rfl) T.k_History (Z7 T) hr) Zf))
   (Zb (Z6 (pm (pv 0) T.k_Volume (Qo T) hr (Za (pf (ok_entry_bytes T) hr (Za (pv 2) (Za (pv 1) (Za (pm0 (pv 0) T.k_Volume (Xc T) hr) (Za (Zi (K:=K) rfl (pv 0) rfl) Zd))))) Zd)))
   (Ze (Zj Jz))))),?_⟩
  obtain ⟨dx,sv,ov,os⟩:=X.ov
  have hlen:0<sts.length:=List.length_pos_iff.mpr X.hst.ne
  refine ⟨_,rfl,_,_,_,_,_,rfl,ov,T.k_Volume,T.na_Volume_content,rfl,a.co,_,rfl,.inl (SqL.of X.oc),_,rfl,p,_,rfl,.inl (SqL.of hp),_,pl.length,rfl,by rw[Zh],by omega,_,_,rfl,rfl,_,_,rfl,rfl,_,rfl,ite2 (fun h=>?_) fun h=>?_⟩
  ·have h1:1048576<bytes.length+Qu pl.length:=by
    have:=of_decide_eq_true h
    rw[Zh] at this
    omega
   exact q1 h1
  have h1:bytes.length+Qu pl.length≤1048576:=by
   refine Nat.le_of_not_lt fun z=>h (decide_eq_true ?_)
   rw[Zh]
   omega
  obtain ⟨dxh,oh⟩:=X.hst.hen.oh
  refine ⟨_,rfl,_,_,_,_,_,rfl,ov,T.k_Volume,T.na_Volume_history,rfl,a.h,dxh,_,rfl,oh,rfl,M,a.h,a.en,a.ch,a.sd,_,_,rfl,X.hst.hen,by rw[List.length_map];exact hlen,_,_,rfl,rfl,?_⟩
  rw[List.length_map]
  refine ⟨_,rfl,a.v,dx,_,rfl,ov,rfl,_,rfl,_,rfl,_,rfl,a.v,dx,_,rfl,ov,rfl,M,a,key,bytes,L,sts,rfl,X,fun p1 H1 s1 n1 e1=>?_⟩
  have hl20:(last20 bytes).length=20:=by unfold last20;rw[List.length_drop];omega
  have hb20:∀x∈last20 bytes,x<256:=fun x hx=>hb3 x (List.mem_of_mem_drop hx)
  refine ⟨_,rfl,_,_,_,_,_,rfl,(s1 _ _ ov),T.k_Volume,T.na_Volume_schedule,rfl,_,sts.length,p,p1,sv,pl,last20 bytes,key,rfl,by omega,s1 _ _ hp,e1,os.sched.same s1,hp1,hl20,hp2,hb20,fun p2 H2 s2 n2 e2=>?_⟩
  have hel:=entryB_len os.key hb20 hl20 (n:=sts.length) hp2
  have X2:=(X.same s1).same s2
  have hne:p2≠a.co:=fun z=>by rw[z,s1 _ _ X.oc] at n2;cases n2
  refine ⟨M,a,p2,key,bytes,L,_,sts,rfl,X2,e2,hne,by rw[hel];omega,hL,fun H3 k3 X3=>?_⟩
  exact q2 h1 H3 ((Qr.of_same (s1.trans s2)).trans k3) X3
theorem added_put_eq (b:Md33.Book) (kind:Nat) (name body:List Nat) (hn:b.stands≠[]):Md33.added b (.put kind name body)=some { b with bytes:=b.bytes++entryB b.key (last20 b.bytes) b.stands.length (1::kind::name.length::(name++body)),stands:=b.stands++[stPut b.stands kind name body] }:=by
 have e:b.count+1=b.stands.length:=by
  have:=List.length_pos_iff.mpr hn
  unfold Md33.Book.count
  omega
 unfold stPut
 rw[← e]
 rfl
theorem added_drop_eq (b:Md33.Book) (name:List Nat) (hn:b.stands≠[]) (hf:(b.stand.find name).isSome=true):Md33.added b (.drop name)=some { b with bytes:=b.bytes++entryB b.key (last20 b.bytes) b.stands.length (2::name.length::name),stands:=b.stands++[stDrop b.stands name] }:=by
 have e:b.count+1=b.stands.length:=by
  have:=List.length_pos_iff.mpr hn
  unfold Md33.Book.count
  omega
 unfold stDrop
 rw[← e]
 unfold Md33.added Md33.after
 dsimp only
 rw[if_pos hf]
 rfl
theorem added_back_eq (b:Md33.Book) (k:Nat) (hn:b.stands≠[]) {s:Md33.Stand} (hs:b.stands[k]?=some s):Md33.added b (.back k)=some { b with bytes:=b.bytes++entryB b.key (last20 b.bytes) b.stands.length (3::Md33.low 4 k),stands:=b.stands++[s] }:=by
 have e:b.count+1=b.stands.length:=by
  have:=List.length_pos_iff.mpr hn
  unfold Md33.Book.count
  omega
 rw[← e]
 unfold Md33.added Md33.after
 dsimp only
 rw[hs]
 rfl
def foot (a:VA):List Addr:=[a.v,a.co,a.le,a.h,a.en,a.ch,a.sd]
theorem Ju {t:Adr} {M:List Addr} {H:Hp} {a:VA} {key:Option (List Nat)} {bytes L:List Nat} {sts:List Md33.Stand} (x:Vol0 t M H a key bytes L sts):∀y∈foot a,y∈M:=by
 intro y hy
 unfold foot at hy
 simp only[List.mem_cons,List.not_mem_nil,or_false] at hy
 rcases hy with rfl|rfl|rfl|rfl|rfl|rfl|rfl
 ·exact x.mv
 ·exact x.mco
 ·exact x.mle
 ·exact x.hst.hen.mh
 ·exact x.hst.hen.me
 ·exact x.hst.hen.mc
 ·exact x.hst.hen.ms
def VPost (t:Adr) (M:List Addr) (H:Hp) (a:VA) (c:Md33.Book) (k:Hp→Prop):Prop:=∀a' M' H',a'.v=a.v→Qr (foot a) H H'→(∀y∈M,y∈M')→(∀y∈M',y∈M∨H y=none)→(∀y∈foot a',y∈foot a∨H y=none)→Vol t M' H' a' c→k H'
theorem after_write {t:Adr} {M:List Addr} {H H1:Hp} {a:VA} {key:Option (List Nat)} {bytes L:List Nat} {sts:List Md33.Stand} (X:Vol0 t M H a key bytes L sts) (k:Qr [a.co,a.le] H H1) {p:Addr} {o:HO} (h:Off M H p o):Off M H1 p o:=
 h.keep1 k (mem2 X.mco X.mle)
theorem gb_clen {b:Md33.Book} (g:Good b) (n:Nat) {p:List Nat} (hp:∀x∈p,x<256):(b.bytes++entryB b.key (last20 b.bytes) n p).length=b.bytes.length+Qu p.length:=by
 have hl20:(last20 b.bytes).length=20:=by unfold last20;rw[List.length_drop];have:=g.len;omega
 rw[List.length_append,entryB_len g.key (bf:=last20 b.bytes) (fun x hx=>g.byt x (List.mem_of_mem_drop hx)) hl20 hp]
def sp_Volume_put (t:Adr):Sp:=fun vs H Q _=>∃(M:List Addr) (a:VA) (nm bd:Addr) (b:Md33.Book) (z:Int) (kind:Nat) (name body:List Nat),vs=[.ref a.v,.int z,.ref nm,.ref bd]∧z=(kind:Int)∧Vol t M H a b∧Off M H nm (.lst (nats name))∧Off M H bd (.lst (nats body))∧(Md33.Entry.put kind name body).fits ∧
 ∀c,Md33.added b (.put kind name body)=some c→(1048576<c.bytes.length→∀H',Same H H'→Q (.int (-4)) H')∧(c.bytes.length≤1048576→∀H',Qr (foot a) H H'→Vol t M H' a c→Q (nV c.count) H')
theorem ok_Volume_put (T:Txt K mg t):OkM P w K mg base 7 t.C_Volume "put" ["self","kind","name","body"] (sp_Volume_put t):=by
 refine okM T.d_Volume_put sc_Volume_put (fun vs H Q E h=>?_) (fun f cdv A outer s H vs Q E hr h=>?_)
 ·obtain ⟨M,a,nm,bd,b,_,kind,name,body,rfl,rfl,X,hn,hb,hf,q⟩:=h
  rfl
 ·obtain ⟨M,a,nm,bd,b,_,kind,name,body,rfl,rfl,X,hn,hb,hf,q⟩:=h
  refine ⟨_,(Zb (Z4 (Xa (Ji (pm (pv 0) T.k_Volume (Qj T) hr (Za (pf (ok_put_text T) hr (Za (pv 1) (Za (pv 2) (Za (pv 3) Zd)))) Zd)))) (Ze (Zj (pgi rfl T.c_TOO_LONG))) Zr)
   (Ze (Zj (pm (Zi (K:=K) rfl (pv 0) rfl) T.k_History (ok_History_put T) hr (Za (pv 1) (Za (pv 2) (Za (pv 3) Zd))))))),?_⟩
  obtain ⟨es,L,X0,g⟩:=X.ex
  have hX:=X.len
  obtain ⟨f1,f2,f3⟩:=g.few hX
  obtain ⟨dx,sv,ov,os⟩:=X0.ov
  obtain ⟨g1,g2,g3,g4,g5,g6⟩:=id hf
  unfold Md33.NAME at g5
  unfold Md33.BODY at g6
  have hplt:=plain_lt hf
  have hpll:=plain_len hf
  have hepl:(Md33.Entry.put kind name body).plain=1::kind::name.length::(name++body):=rfl
  rw[hepl] at hplt hpll
  have hadd:=added_put_eq b kind name body g.good.ne
  obtain ⟨q1,q2⟩:=q _ hadd
  have hLl:L.length≤1000000:=by rw[g.runs.len,g.cnt];omega
  refine ⟨_,rfl,a.v,dx,_,rfl,ov,rfl,_,rfl,_,rfl,_,rfl,_,kind,nm,bd,name,body,rfl,rfl,hn.1,hb.1,by omega,by omega,fun p1 H1 s1 n1 e1=>?_⟩
  have X1:=X0.same s1
  have hcl:=gb_clen g.good b.stands.length hplt
  refine ⟨M,a,p1,b.key,b.bytes,L,_,b.stands,rfl,X1,e1,g.good.len,hX,g.good.byt,by omega,hplt,hLl,by omega,fun hz=>?_,fun hz H2 k2 X2=>?_⟩
  ·refine ⟨_,rfl,iteT ?_⟩
   exact q1 (by show _<List.length (_++_);rw[hcl];exact hz) H1 s1
  ·refine ⟨_,rfl,iteF ?_⟩
   obtain ⟨dx2,sv2,ov2,os2⟩:=X2.ov
   obtain ⟨dxh2,oh2⟩:=X2.hst.hen.oh
   have K:Qr [a.co,a.le] H H2:=(Qr.of_same s1).trans k2
   have hst:b.stand∈b.stands:=Yb g.good.ne
   refine ⟨_,rfl,_,_,_,_,_,rfl,ov2,T.k_Volume,T.na_Volume_history,rfl,a.h,dxh2,_,rfl,oh2,rfl,_,rfl,_,rfl,_,rfl,M,a.h,a.en,a.ch,a.sd,nm,bd,b.stands,_,kind,name,body,rfl,rfl,X2.hst,by omega,?_,?_,.inl (after_write X0 K hn).1,after_write X0 K hb,fun H3 k3 X3=>?_⟩
   ·have:=f3 _ hst
    show b.stand.records.length≤_
    omega
   ·show Sorted b.stand.records
    rw[(g.good.st _ hst).rcs];exact Yp _
   have hF3:∀y∈[a.en,a.ch,a.sd],y=a.h∨y=a.en∨y=a.ch∨y=a.sd:=mem3 (.inr (.inl rfl)) (.inr (.inr (.inl rfl))) (.inr (.inr (.inr rfl)))
   have X4:=X2.hist (sd':=a.sd) k3 hF3 (fun y hy=>hy) (fun y hy=>.inl hy) X3
   have g':=gb_added g hf hadd
   have:=q2 (by show List.length (_++_)≤_;rw[hcl];exact hz) H3 ((K.mono (mem2 (by simp[foot]) (by simp[foot]))).trans (k3.mono (mem3 (by simp[foot]) (by simp[foot]) (by simp[foot])))) ⟨⟨_,_,X4,g'⟩,by show List.length (_++_)≤_;rw[hcl];exact hz⟩
   refine to this ?_
   show ((b.stands.length:Nat):Int)=(((b.stands++[stPut b.stands kind name body]).length-1:Nat):Int)
   rw[Xe]
   rfl
def sp_Volume_drop (t:Adr):Sp:=fun vs H Q _=>∃(M:List Addr) (a:VA) (nm:Addr) (b:Md33.Book) (name:List Nat),vs=[.ref a.v,.ref nm]∧Vol t M H a b∧Off M H nm (.lst (nats name))∧(Md33.Entry.drop name).fits ∧
 ((b.stand.find name).isSome=false→∀H',Same H H'→Q (.int (-2)) H') ∧
 ∀c,Md33.added b (.drop name)=some c→(1048576<c.bytes.length→∀H',Same H H'→Q (.int (-4)) H')∧(c.bytes.length≤1048576→∀H',Qr (foot a) H H'→Vol t M H' a c→Q (nV c.count) H')
theorem ok_Volume_drop (T:Txt K mg t):OkM P w K mg base 7 t.C_Volume "drop" ["self","name"] (sp_Volume_drop t):=by
 refine okM T.d_Volume_drop sc_Volume_drop (fun vs H Q E h=>?_) (fun f cdv A outer s H vs Q E hr h=>?_)
 ·obtain ⟨M,a,nm,b,name,rfl,X,hn,hf,q0,q⟩:=h
  rfl
 ·obtain ⟨M,a,nm,b,name,rfl,X,hn,hf,q0,q⟩:=h
  refine ⟨_,(Zb (Z4 (Zu op_isN (pm (Zi (K:=K) rfl (pv 0) rfl) T.k_History (Jt T) hr (Za (pv 1) Zd)) pe_non (Qv _)) (Ze (Zj (pgi rfl T.c_NO_RECORD))) Zr)
   (Zb (Z4 (Xa (Ji (pm (pv 0) T.k_Volume (Qj T) hr (Za (pf (ok_drop_text T) hr (Za (pv 1) Zd)) Zd)))) (Ze (Zj (pgi rfl T.c_TOO_LONG))) Zr)
   (Ze (Zj (pm (Zi (K:=K) rfl (pv 0) rfl) T.k_History (ok_History_drop T) hr (Za (pv 1) Zd)))))),?_⟩
  obtain ⟨es,L,X0,g⟩:=X.ex
  have hX:=X.len
  obtain ⟨f1,f2,f3⟩:=g.few hX
  obtain ⟨dx,sv,ov,os⟩:=X0.ov
  obtain ⟨dxh,oh⟩:=X0.hst.hen.oh
  obtain ⟨g1,g2,g3⟩:=id hf
  unfold Md33.NAME at g3
  have hplt:=plain_lt hf
  have hpll:=plain_len hf
  have hepl:(Md33.Entry.drop name).plain=2::name.length::name:=rfl
  rw[hepl] at hplt hpll
  have hLl:L.length≤1000000:=by rw[g.runs.len,g.cnt];omega
  refine ⟨_,rfl,_,_,_,_,_,rfl,ov,T.k_Volume,T.na_Volume_history,rfl,a.h,dxh,_,rfl,oh,rfl,_,rfl,M,a.h,a.en,a.ch,a.sd,nm,b.stands,name,rfl,X0.hst,hn.1,fun H1 r c s1 hrm hrn hc=>?_,fun H1 s1 hno=>?_⟩
  rotate_left
  ·refine ⟨rfl,_,rfl,iteT ?_⟩
   refine q0 ?_ H1 s1
   have:b.stand.find name=none:=find_none.mpr hno
   rw[this];rfl
  have hsome:(b.stand.find name).isSome=true:=by
   cases hq:b.stand.find name with
   | none=>exact absurd hrn (find_none.mp hq r hrm)
   | some x=>rfl
  have hadd:=added_drop_eq b name g.good.ne hsome
  obtain ⟨q1,q2⟩:=q _ hadd
  refine ⟨rfl,_,rfl,iteF ?_⟩
  have X1:=X0.same s1
  refine ⟨_,rfl,a.v,dx,_,rfl,s1 _ _ ov,rfl,_,rfl,nm,name,rfl,s1 _ _ hn.1,by omega,fun p2 H2 s2 n2 e2=>?_⟩
  have X2:=X1.same s2
  have hcl:=gb_clen g.good b.stands.length hplt
  refine ⟨M,a,p2,b.key,b.bytes,L,_,b.stands,rfl,X2,e2,g.good.len,hX,g.good.byt,by omega,hplt,hLl,by omega,fun hz=>?_,fun hz H3 k3 X3=>?_⟩
  ·refine ⟨_,rfl,iteT ?_⟩
   exact q1 (by show _<List.length (_++_);rw[hcl];exact hz) H2 (s1.trans s2)
  ·refine ⟨_,rfl,iteF ?_⟩
   obtain ⟨dx3,sv3,ov3,os3⟩:=X3.ov
   obtain ⟨dxh3,oh3⟩:=X3.hst.hen.oh
   have K:Qr [a.co,a.le] H H3:=(Qr.of_same (s1.trans s2)).trans k3
   refine ⟨_,rfl,_,_,_,_,_,rfl,ov3,T.k_Volume,T.na_Volume_history,rfl,a.h,dxh3,_,rfl,oh3,rfl,_,rfl,M,a.h,a.en,a.ch,a.sd,nm,b.stands,name,rfl,X3.hst,by omega,⟨r,hrm,hrn⟩,.inl (after_write X0 K hn).1,fun H4 k4 X4=>?_⟩
   have hF3:∀y∈[a.en,a.ch,a.sd],y=a.h∨y=a.en∨y=a.ch∨y=a.sd:=mem3 (.inr (.inl rfl)) (.inr (.inr (.inl rfl))) (.inr (.inr (.inr rfl)))
   have X5:=X3.hist (sd':=a.sd) k4 hF3 (fun y hy=>hy) (fun y hy=>.inl hy) X4
   have g':=gb_added g hf hadd
   have:=q2 (by show List.length (_++_)≤_;rw[hcl];exact hz) H4 ((K.mono (mem2 (by simp[foot]) (by simp[foot]))).trans (k4.mono (mem3 (by simp[foot]) (by simp[foot]) (by simp[foot])))) ⟨⟨_,_,X5,g'⟩,by show List.length (_++_)≤_;rw[hcl];exact hz⟩
   refine to this ?_
   show ((b.stands.length:Nat):Int)=(((b.stands++[stDrop b.stands name]).length-1:Nat):Int)
   rw[Xe]
   rfl
theorem foot_sd {H:Hp} {a:VA} {sd':Addr} (h:H sd'=none):∀y∈foot { a with sd:=sd' },y∈foot a∨H y=none:=by
 intro y hy
 unfold foot at hy ⊢
 simp only[List.mem_cons,List.not_mem_nil,or_false] at hy ⊢
 rcases hy with e|e|e|e|e|e|e
 ·exact .inl (.inl e)
 ·exact .inl (.inr (.inl e))
 ·exact .inl (.inr (.inr (.inl e)))
 ·exact .inl (.inr (.inr (.inr (.inl e))))
 ·exact .inl (.inr (.inr (.inr (.inr (.inl e)))))
 ·exact .inl (.inr (.inr (.inr (.inr (.inr (.inl e))))))
 ·exact .inr (by rw[e];exact h)
def sp_Volume_back (t:Adr):Sp:=fun vs H Q _=>∃(M:List Addr) (a:VA) (b:Md33.Book) (z:Int) (k:Nat) (st:Md33.Stand),vs=[.ref a.v,.int z]∧z=(k:Int)∧Vol t M H a b∧b.stands[k]?=some st ∧
 ∀c,Md33.added b (.back k)=some c→(1048576<c.bytes.length→∀H',Same H H'→Q (.int (-4)) H')∧(c.bytes.length≤1048576→VPost t M H a c (Q (nV c.count)))
theorem ok_Volume_back (T:Txt K mg t):OkM P w K mg base 7 t.C_Volume "back" ["self","number"] (sp_Volume_back t):=by
 refine okM T.d_Volume_back sc_Volume_back (fun vs H Q E h=>?_) (fun f cdv A outer s H vs Q E hr h=>?_)
 ·obtain ⟨M,a,b,_,k,st,rfl,rfl,X,hk,q⟩:=h
  rfl
 ·obtain ⟨M,a,b,_,k,st,rfl,rfl,X,hk,q⟩:=h
  refine ⟨_,(Zb (Z4 (Xa (Ji (pm (pv 0) T.k_Volume (Qj T) hr (Za (pf (ok_back_text T) hr (Za (pv 1) Zd)) Zd)))) (Ze (Zj (pgi rfl T.c_TOO_LONG))) Zr)
   (Ze (Zj (pm (Zi (K:=K) rfl (pv 0) rfl) T.k_History (ok_History_back T) hr (Za (pv 1) Zd))))),?_⟩
  obtain ⟨es,L,X0,g⟩:=X.ex
  have hX:=X.len
  obtain ⟨f1,f2,f3⟩:=g.few hX
  obtain ⟨dx,sv,ov,os⟩:=X0.ov
  have hkl:k<b.stands.length:=(List.getElem?_eq_some_iff.mp hk).1
  have hf:(Md33.Entry.back k).fits:=by
   show k<2^32
   exact Nat.lt_of_lt_of_le hkl (Nat.le_trans f1 (by decide))
  have hplt:=plain_lt hf
  have hpll:=plain_len hf
  have hepl:(Md33.Entry.back k).plain=3::Md33.low 4 k:=rfl
  rw[hepl] at hplt hpll
  have hLl:L.length≤1000000:=by rw[g.runs.len,g.cnt];omega
  have hadd:=added_back_eq b k g.good.ne hk
  obtain ⟨q1,q2⟩:=q _ hadd
  refine ⟨_,rfl,a.v,dx,_,rfl,ov,rfl,_,rfl,_,k,rfl,rfl,fun p1 H1 s1 n1 e1=>?_⟩
  have X1:=X0.same s1
  have hcl:=gb_clen g.good b.stands.length hplt
  refine ⟨M,a,p1,b.key,b.bytes,L,_,b.stands,rfl,X1,e1,g.good.len,hX,g.good.byt,by omega,hplt,hLl,by omega,fun hz=>?_,fun hz H2 k2 X2=>?_⟩
  ·refine ⟨_,rfl,iteT ?_⟩
   exact q1 (by show _<List.length (_++_);rw[hcl];exact hz) H1 s1
  ·refine ⟨_,rfl,iteF ?_⟩
   obtain ⟨dx2,sv2,ov2,os2⟩:=X2.ov
   obtain ⟨dxh2,oh2⟩:=X2.hst.hen.oh
   have K:Qr [a.co,a.le] H H2:=(Qr.of_same s1).trans k2
   have hst:st∈b.stands:=List.mem_of_getElem? hk
   refine ⟨_,rfl,_,_,_,_,_,rfl,ov2,T.k_Volume,T.na_Volume_history,rfl,a.h,dxh2,_,rfl,oh2,rfl,_,rfl,M,a.h,a.en,a.ch,a.sd,b.stands,_,k,st,rfl,rfl,X2.hst,by omega,hk,g.valid st hst,(g.good.st st hst).rcs,fun sd' H3 nsd k3 X3=>?_⟩
   have hF3:∀y∈[a.h,a.en],y=a.h∨y=a.en∨y=a.ch∨y=a.sd:=mem2 (.inl rfl) (.inr (.inl rfl))
   have X4:=X2.hist (sd':=sd') k3 hF3 (fun y hy=>List.mem_cons_of_mem _ hy) (fun y hy=>(List.mem_cons.mp hy).elim (fun e=>.inr (by rw[e];exact nsd)) .inl) X3
   have g':=gb_added g hf hadd
   have hsd:H sd'=none:=Je K (mem2 (by rw[X2.oc];simp) (by rw[X2.ol];simp)) nsd
   have:=q2 (by show List.length (_++_)≤_;rw[hcl];exact hz) { a with sd:=sd' } (sd'::M) H3 rfl ((K.mono (mem2 (by simp[foot]) (by simp[foot]))).trans (k3.mono (mem2 (by simp[foot]) (by simp[foot])))) (fun y hy=>List.mem_cons_of_mem _ hy) (fun y hy=>(List.mem_cons.mp hy).elim (fun e=>.inr (by rw[e];exact hsd)) .inl) (foot_sd hsd) ⟨⟨_,_,X4,g'⟩,by show List.length (_++_)≤_;rw[hcl];exact hz⟩
   refine to this ?_
   show ((b.stands.length:Nat):Int)=(((b.stands++[st]).length-1:Nat):Int)
   rw[Xe]
   rfl
end
theorem rowsO_of {M:List Addr} {H H1:Hp} {p:Addr} {rows:List (List Nat)} (h:Rows H1 p rows) (np:H p=none) (fr:∀xs,H1 p=some (.lst xs)→∀y:Addr,V.ref y∈xs→H y=none) (hM:∀m∈M,(∀xs,H1 m≠some (.lst xs))∨H m≠none):RowsO M H1 p rows:=by
 obtain ⟨rs,h1,h2,h3⟩:=h.ex
 refine ⟨rs,⟨h1,fun z=>(hM _ z).elim (fun e=>e _ h1) fun e=>e np⟩,h2,fun i x hx=>?_⟩
 obtain ⟨row,a,b⟩:=h3 i x hx
 refine ⟨row,a,b,fun z=>(hM _ z).elim (fun e=>e _ b) fun e=>e (fr _ h1 x ?_)⟩
 exact List.mem_map.mpr ⟨x,List.mem_of_getElem? hx,rfl⟩
def SchedN (H H1:Hp) (v:V):Option (List Nat)→Prop
 | none=>v=.non
 | some k=>∃sc,v=.ref sc∧Rows H1 sc ((List.range 11).map (roundK k))∧B16 k∧H sc=none∧∀xs,H1 sc=some (.lst xs)→∀y:Addr,V.ref y∈xs→H y=none
theorem schedO_of {M:List Addr} {H H1:Hp} {v:V} {key:Option (List Nat)} (h:SchedN H H1 v key) (hM:∀m∈M,(∀xs,H1 m≠some (.lst xs))∨H m≠none):SchedO M H1 v key:=by
 cases key with
 | none=>exact h
 | some k=>obtain ⟨sc,e,r,b,n,f⟩:=h;exact ⟨sc,e,rowsO_of r n f hM,b⟩
def nKey (key:Option (List Nat)):Nat:=if key.isSome=true then 1 else 0
theorem head_eq (key:Option (List Nat)) (salt:List Nat):(mk8 (nKey key)++salt)++Md33.sum ((mk8 (nKey key)++salt)++key.getD [])=Md33.headOf key salt:=rfl
theorem hst_new {t:Adr} {M:List Addr} {H:Hp} {h en ch sd:Addr} (mh:h∈M) (me:en∈M) (mc:ch∈M) (ms:sd∈M) (pres:∀p∈M,H p≠none) {dx:Addr} (oh:H h=some (.ins t.C_History dx [("ends",.ref en),("changes",.ref ch),("standing",.ref sd)])) (oe:H en=some (.lst (nats [0]))) (oc:H ch=some (.dK [])) (os:H sd=some (.dT [])):Hst t M H h en ch sd [{}]:=
 ⟨⟨mh,me,mc,ms,pres,⟨dx,oh⟩,oe,[],oc,Nat.zero_le _,fun w hw=>by
  have e:w=[]:=by simpa using hw
  rw[e];trivial⟩,by simp,[],os,StdK.nil _⟩
theorem mem7 {P:Addr→Prop} {a b c d e f g:Addr} (ha:P a) (hb:P b) (hc:P c) (hd:P d) (he:P e) (hf:P f) (hg:P g):∀y∈[a,b,c,d,e,f,g],P y:=by
 intro y hy
 simp only[List.mem_cons,List.not_mem_nil,or_false] at hy
 rcases hy with rfl|rfl|rfl|rfl|rfl|rfl|rfl<;>assumption
theorem mem7M {P:Addr→Prop} {M:List Addr} {a b c d e f g:Addr} (ha:P a) (hb:P b) (hc:P c) (hd:P d) (he:P e) (hf:P f) (hg:P g) (hM:∀y∈M,P y):∀y∈[a,b,c,d,e,f,g]++M,P y:=by
 intro y hy
 rcases List.mem_append.mp hy with hy|hy
 ·exact mem7 ha hb hc hd he hf hg y hy
 ·exact hM y hy
section
variable {P:Program} {w:World} {K:PySem.W.Frag} {mg:Str→Option Value} {base:Heap} {t:Adr}
def sp_Volume_entries_within (t:Adr):Sp:=fun vs H Q _=>∃(M:List Addr) (a:VA) (key:Option (List Nat)) (bytes L:List Nat) (sts:List Md33.Stand) (z:Int) (n:Nat),vs=[.ref a.v,.int z]∧z=(n:Int)∧Vol0 t M H a key bytes L sts∧L.length≤1000000∧∀H',Same H H'→Q (nV ((L.drop 1).filter fun x=>decide (x≤n)).length) H'
theorem ok_Volume_entries_within (T:Txt K mg t):OkM P w K mg base 1 t.C_Volume "entries_within" ["self","length"] (sp_Volume_entries_within t):=by
 refine okM T.d_Volume_entries_within Y1 (fun vs H Q E h=>?_) (fun f cdv A outer s H vs Q E hr h=>?_)
 ·obtain ⟨M,a,key,bytes,L,sts,_,n,rfl,rfl,X,hL,q⟩:=h
  rfl
 ·obtain ⟨M,a,key,bytes,L,sts,_,n,rfl,rfl,X,hL,q⟩:=h
  refine ⟨_,(Ze (Zj (Zs (Zq (K:=K) rfl) rfl T.n_len PySem.boot_len (Za (pe_lc rfl Y1.nd (J8 (Z1 (Z0 (K:=K) rfl) (Zi (K:=K) rfl (pv 0) rfl) (Zv Zf) Yt)) (Xt (N:=["self","length","end"]) (sc:=Qs Y6) (own:=[("end",2)]) (by decide +kernel)) (fun _ _ _ _ _=>(Z3 (i:=2) Y1.nd rfl (Or.inl rfl))) (fun _ _ _ _ _=>(pts_one (Zu Xm (pv 2) (pv 1) (Qv _)))) (fun _ _ _ _ _=>(pv 2))) Zd)))),?_⟩
  obtain ⟨dx,sv,ov,os⟩:=X.ov
  refine ⟨_,rfl,_,_,_,_,_,rfl,ov,T.k_Volume,T.na_Volume_lengths,rfl,_,rfl,a.le,_,rfl,SqL.of X.ol,fun p hp=>?_⟩
  rw[show (some (1:Int))=some ((1:Nat):Int) from rfl,cut_from]
  have s1:=Zk (o:=.lst (nats (L.drop 1))) hp
  have e1:(upd H p (.lst (nats (L.drop 1)))) p=some (.lst (nats (L.drop 1))):=Zc
  generalize upd H p (.lst (nats (L.drop 1)))=G1 at *
  refine ⟨p,rfl,⟨_,SqL.of e1⟩,fun D hD=>lc_filt (xs:=nats (L.drop 1)) (fun i H3=>Same G1 H3∧H3 D=some (.lst (nats (((L.drop 1).take i).filter fun x=>decide (x≤n))))) ⟨Zk hD,Zc⟩ (fun i H3 _ ⟨s3,_⟩=>SqL.of (s3 _ _ e1)) ?_ ?_⟩
  ·rintro i x H3 hx ⟨s3,h3⟩
   obtain ⟨hi,rfl⟩:=Xx hx
   have et:(L.drop 1).take (i+1)=(L.drop 1).take i++[(L.drop 1).getD i 0]:=by rw[List.take_add_one,Jd hi];rfl
   refine ⟨_,rfl,_,rfl,_,_,rfl,rfl,_,rfl,ite2 (fun h=>?_) fun h=>?_⟩
   ·have h':(L.drop 1).getD i 0≤n:=by have:=of_decide_eq_true h;omega
    refine ⟨_,rfl,_,h3,?_,fun b o eb=>?_,?_⟩
    ·rw[Zh,Qt]
     have h1:=List.length_filter_le (fun x=>decide (x≤n)) ((L.drop 1).take i)
     rw[List.length_take,List.length_drop] at h1
     omega
    ·rw[Zn (Zg eb hD)];exact s3 _ _ eb
    ·rw[Zc,et,List.filter_append,Z2]
     congr 2
     rw[List.filter_cons_of_pos (by simpa using h')];rfl
   ·have h':¬ (L.drop 1).getD i 0≤n:=fun z=>h (decide_eq_true (by omega))
    refine ⟨s3,?_⟩
    rw[h3,et,List.filter_append,List.filter_cons_of_neg (by simpa using h')]
    simp
  ·rintro H3 ⟨s3,h3⟩
   rw[Zh,List.take_of_length_le (Nat.le_refl _)] at h3
   refine ⟨D,_,rfl,.inl (SqL.of h3),?_⟩
   have:=q H3 (s1.trans s3)
   rw[Zh]
   exact this
def sp_in_place_count (t:Adr):Sp:=fun vs H Q _=>∃(M:List Addr) (p:Addr) (cs:List Addr) (rs:List Md33.Record),vs=[.ref p]∧H p=some (.lst (cs.map V.ref))∧Paired (fun c r=>CR t M H c r) cs rs∧∀k,k≤rs.length→(∀i r,i<k→rs[i]?=some r→r.number=i+1)→Q (nV k) H
theorem ok_in_place_count (T:Txt K mg t):OkF P w K mg base 1 "in_place_count" ["records"] (sp_in_place_count t):=by
 refine okF T.d_in_place_count Xk (fun vs H Q E h=>?_) (fun f cdv A outer s H vs Q E hr h=>?_)
 ·obtain ⟨M,p,cs,rs,rfl,hp,hc,q⟩:=h
  rfl
 ·obtain ⟨M,p,cs,rs,rfl,hp,hc,q⟩:=h
  refine ⟨_,(Zb (Zo (i:=1) Xk.nd rfl (Or.inl rfl) Zf)
   (Zb (Y2 PassesOwn.never rfl (J8 (pv 0)) (Z3 (i:=2) Xk.nd rfl (Or.inl rfl)) (Zb (Z4 (Zu op_ne (Zi (K:=K) rfl (pv 2) rfl) (Zm Z5 (pv 1) Zf) (Qv _)) (Ze ps_break) Zr)
   (Ze (ps_aug (i:=1) Xk.nd rfl (Or.inl rfl) Zf ip_add))))
   (Ze (Zj (pv 1))))),?_⟩
  have hcl:=Paired.length hc
  refine ⟨_,rfl,p,rfl,⟨_,SqL.of hp⟩,for_list (xs:=cs.map V.ref) (fun i σ H2=>H2=H∧i≤rs.length∧(∀j r,j<i→rs[j]?=some r→r.number=j+1)∧∃v2,σ=[some (.ref p),some (.int (i:Nat)),v2]) ⟨rfl,Nat.zero_le _,(fun j r hj=>absurd hj (Nat.not_lt_zero _)),none,rfl⟩ (fun i σ H2 _ ⟨e,_⟩=>by rw[e];exact SqL.of hp) ?_ ?_⟩
  ·rintro i x σ H2 hx ⟨rfl,hi,hj,v2,rfl⟩
   rw[List.getElem?_map] at hx
   cases hci:cs[i]? with
   | none=>rw[hci] at hx;cases hx
   | some c=>
    rw[hci] at hx
    have hx':V.ref c=x:=Option.some.inj hx
    subst hx'
    obtain ⟨r,hri,ear,dxc,q1,bd,oc,on,ob⟩:=Xr hc hci
    have hir:i<rs.length:=(List.getElem?_eq_some_iff.mp hri).1
    refine ⟨_,rfl,_,_,_,_,_,rfl,oc.1,T.k_Change,T.na_Change_number,rfl,_,rfl,_,_,rfl,rfl,rfl,_,rfl,ite2 (fun h=>?_) fun h=>?_⟩
    ·exact ⟨_,rfl,q i hi hj⟩
    ·have hn:r.number=i+1:=by
      by_cases z:r.number=i+1
      ·exact z
      ·refine absurd ?_ h
       have:¬ (V.int (r.number:Nat)=V.int ((i:Nat)+1)):=fun e=>z (by have:=V.int.inj e;omega)
       simp[this]
     refine ⟨_,rfl,_,_,rfl,rfl,rfl,hir,fun j r' hj' hr'=>?_,_,rfl⟩
     by_cases e:j=i
     ·subst e
      rw[hri] at hr'
      cases hr'
      exact hn
     ·exact hj j r' (by omega) hr'
  ·rintro σ H2 ⟨rfl,hi,hj,v2,rfl⟩
   rw[List.length_map,hcl] at hj
   refine ⟨_,rfl,?_⟩
   rw[List.length_map,hcl]
   exact q rs.length (Nat.le_refl _) hj
def sp_Volume_init (t:Adr):Sp:=fun vs H Q _=>∃(M0:List Addr) (x dx sa ka:Addr) (z:Int) (key:Option (List Nat)) (salt:List Nat),vs=[.ref x,.int z,.ref sa,.ref ka]∧(∀y∈M0,H y≠none)∧z=(nKey key:Int)∧H x=some (.ins t.C_Volume dx [])∧H sa=some (.lst (nats salt))∧H ka=some (.lst (nats (key.getD [])))∧B16 salt∧(∀k,key=some k→B16 k) ∧
 ∀M a H',a.v=x→Qr [x] H H'→(∀y∈M0,y∈M)→(∀y∈M,y∈M0∨y=x∨H y=none)→(∀y∈foot a,y=x∨H y=none)→Vol t M H' a (Md33.begun key salt)→Q .non H'
theorem ok_Volume_init (T:Txt K mg t):OkC P w K mg base 5 t.C_Volume "Volume" ["self","shut","salt","key"] (sp_Volume_init t):=by
 refine okC T.d_Volume_init sc_Volume_init (fun vs H Q E h=>?_) (fun f cdv A outer s H vs Q E hr h=>?_)
 ·obtain ⟨M0,x,dx,sa,ka,z,key,salt,rfl,pres0,hz,hx,hsa,hka,hsalt,hkey,q⟩:=h
  rfl
 ·obtain ⟨M0,x,dx,sa,ka,z,key,salt,rfl,pres0,hz,hx,hsa,hka,hsalt,hkey,q⟩:=h
  refine ⟨_,(Zb (Ye (K:=K) rfl (pv 0) (pe_ifExp (Zu Jq (pv 1) Zf (Qv _)) (pf (ok_spread_key T) hr (Za (pv 3) Zd)) pe_non) rfl)
   (Zb (Ye (K:=K) rfl (pv 0) (pf (ok_head_bytes T) hr (Za (pv 1) (Za (pv 2) (Za (pv 3) Zd)))) rfl)
   (Zb (Ye (K:=K) rfl (pv 0) (Zz (Za (Zs (Zq (K:=K) rfl) rfl T.n_len PySem.boot_len (Za (Zi (K:=K) rfl (pv 0) rfl) Zd)) Zd)) rfl)
   (Ze (Ye (K:=K) rfl (pv 0) (pk0 (ok_History_init T) hr) rfl))))),?_⟩
  have hsx:sa≠x:=fun e=>by rw[e,hx] at hsa;cases hsa
  have hkx:ka≠x:=fun e=>by rw[e,hx] at hka;cases hka
  have hhl:=(J4 hkey hsalt).1
  have hkl:(key.getD []).length≤1000:=by
   cases hk0:key with
   | none=>exact Nat.zero_le _
   | some k=>show k.length≤1000;rw[(hkey k hk0).len];decide
  have hkb:∀y∈key.getD [],y<256:=by
   cases hk0:key with
   | none=>intro y hy;cases hy
   | some k=>exact (hkey k hk0).lt
  refine ⟨_,rfl,rfl,_,rfl,ite2 (fun h=>?_) fun h=>?_⟩
  ·have h1:z=1:=V.int.inj (of_decide_eq_true h)
   obtain ⟨k,hk0⟩:∃k,key=some k:=by
    cases hk0:key with
    | none=>rw[hk0] at hz;rw[hz] at h1;exact absurd h1 (by decide)
    | some k=>exact ⟨k,rfl⟩
   refine ⟨_,rfl,ka,k,rfl,by rw[hk0] at hka;exact hka,hkey k hk0,fun sc H1 s1 n1 r1 fr1=>?_⟩
   have hS:SchedN H H1 (.ref sc) key:=by rw[hk0];exact ⟨sc,rfl,r1,hkey k hk0,n1,fr1⟩
   generalize V.ref sc=sv at *
   refine ⟨_,rfl,x,_,dx,_,rfl,s1 _ _ hx,T.k_Volume,T.na_Volume_schedule,(show 0<1000 by decide),?_⟩
   have k1:Qr [x] H1 (upd H1 x (.ins t.C_Volume dx (putF "schedule" sv []))):=Qr.upd (by simp)
   have x1:(upd H1 x (.ins t.C_Volume dx (putF "schedule" sv []))) x=some (.ins t.C_Volume dx [("schedule",sv)]):=Zc
   generalize upd H1 x (.ins t.C_Volume dx (putF "schedule" sv []))=G1 at *
   have K1:Qr [x] H G1:=(Qr.of_same s1).trans k1
   refine ⟨_,rfl,_,rfl,_,rfl,_,nKey key,sa,ka,salt,key.getD [],rfl,hz,by unfold nKey;split<;>decide,K1 _ _ (by simpa using hsx) hsa,K1 _ _ (by simpa using hkx) hka,by rw[hsalt.len];decide,hkl,hsalt.lt,hkb,fun co H2 s2 n2 e2=>?_⟩
   rw[head_eq] at e2
   refine ⟨_,rfl,x,_,dx,_,rfl,s2 _ _ x1,T.k_Volume,T.na_Volume_content,(show 1<1000 by decide),?_⟩
   have k2:Qr [x] H2 (upd H2 x (.ins t.C_Volume dx (putF "content" (.ref co) [("schedule",sv)]))):=Qr.upd (by simp)
   have x2:(upd H2 x (.ins t.C_Volume dx (putF "content" (.ref co) [("schedule",sv)]))) x=some (.ins t.C_Volume dx [("schedule",sv),("content",.ref co)]):=Zc
   generalize upd H2 x (.ins t.C_Volume dx (putF "content" (.ref co) [("schedule",sv)]))=G2 at *
   have hxco:x≠co:=fun z=>by rw[z] at x1;rw[x1] at n2;cases n2
   have c2:=k2 _ _ (by simpa using Ne.symm hxco) e2
   have K2:Qr [x] G1 G2:=(Qr.of_same s2).trans k2
   refine ⟨_,rfl,_,_,_,_,_,rfl,x2,T.k_Volume,T.na_Volume_content,rfl,co,_,rfl,.inl (SqL.of c2),(show 1≤sizeLine by decide),fun le n3=>?_⟩
   rw[Zh,hhl]
   have hxle:x≠le:=Zg x2 n3
   have hcole:co≠le:=Zg c2 n3
   refine ⟨_,rfl,x,_,dx,_,rfl,(Zn hxle).trans x2,T.k_Volume,T.na_Volume_lengths,(show 2<1000 by decide),?_⟩
   have k3:Qr [x] G2 (upd (upd G2 le (.lst [V.int (44:Nat)])) x (.ins t.C_Volume dx (putF "lengths" (.ref le) [("schedule",sv),("content",.ref co)]))):=(Qr.new n3).trans (Qr.upd (by simp))
   have x3:(upd (upd G2 le (.lst [V.int (44:Nat)])) x (.ins t.C_Volume dx (putF "lengths" (.ref le) [("schedule",sv),("content",.ref co)]))) x=some (.ins t.C_Volume dx [("schedule",sv),("content",.ref co),("lengths",.ref le)]):=Zc
   have l3:(upd (upd G2 le (.lst [V.int (44:Nat)])) x (.ins t.C_Volume dx (putF "lengths" (.ref le) [("schedule",sv),("content",.ref co)]))) le=some (.lst (nats [44])):=(Zn (Ne.symm hxle)).trans Zc
   generalize upd (upd G2 le (.lst [V.int (44:Nat)])) x (.ins t.C_Volume dx (putF "lengths" (.ref le) [("schedule",sv),("content",.ref co)]))=G3 at *
   have c3:=k3 _ _ (by simpa using Ne.symm hxco) c2
   refine fun h dxh nh ndxh hdh=>?_
   have s4:Same G3 (upd (upd G3 dxh (.own h)) h (.ins t.C_History dxh [])):=fun b o eb=>by rw[Zn (Zg eb nh),Zn (Zg eb ndxh)];exact eb
   have h4:(upd (upd G3 dxh (.own h)) h (.ins t.C_History dxh [])) h=some (.ins t.C_History dxh []):=Zc
   generalize upd (upd G3 dxh (.own h)) h (.ins t.C_History dxh [])=G4 at *
   refine ⟨h,dxh,rfl,h4,fun en ch sd G5 k5 nen nch nsd h5 e5 ch5 sd5=>⟨rfl,?_⟩⟩
   have hxh:x≠h:=Zg x3 nh
   have hcoh:co≠h:=Zg c3 nh
   have hleh:le≠h:=Zg l3 nh
   have x5:=k5 _ _ (by simpa using hxh) (s4 _ _ x3)
   have c5:=k5 _ _ (by simpa using hcoh) (s4 _ _ c3)
   have l5:=k5 _ _ (by simpa using hleh) (s4 _ _ l3)
   refine ⟨_,rfl,x,_,dx,_,rfl,x5,T.k_Volume,T.na_Volume_history,(show 3<1000 by decide),?_⟩
   have k6:Qr [x] G5 (upd G5 x (.ins t.C_Volume dx (putF "history" (.ref h) [("schedule",sv),("content",.ref co),("lengths",.ref le)]))):=Qr.upd (by simp)
   have x6:(upd G5 x (.ins t.C_Volume dx (putF "history" (.ref h) [("schedule",sv),("content",.ref co),("lengths",.ref le)]))) x=some (.ins t.C_Volume dx (volF sv co le h)):=Zc
   generalize upd G5 x (.ins t.C_Volume dx (putF "history" (.ref h) [("schedule",sv),("content",.ref co),("lengths",.ref le)]))=G6 at *
   have hen:en≠x:=fun z=>by rw[z] at e5;rw[x5] at e5;cases e5
   have hch:ch≠x:=fun z=>by rw[z] at ch5;rw[x5] at ch5;cases ch5
   have hsd:sd≠x:=fun z=>by rw[z] at sd5;rw[x5] at sd5;cases sd5
   have hcoen:co≠en:=Zg (s4 _ _ c3) nen
   have hleen:le≠en:=Zg (s4 _ _ l3) nen
   have c6:=k6 _ _ (by simpa using Ne.symm hxco) c5
   have l6:=k6 _ _ (by simpa using Ne.symm hxle) l5
   have h6:=k6 _ _ (by simpa using Ne.symm hxh) h5
   have e6:=k6 _ _ (by simpa using hen) e5
   have ch6:=k6 _ _ (by simpa using hch) ch5
   have sd6:=k6 _ _ (by simpa using hsd) sd5
   have fr:∀{F:List Addr} {A B:Hp} {p:Addr},Qr [x] A B→B x≠none→B p=none→A p=none:=fun k hx' hp=>Je k (mem1 hx') hp
   have K3:Qr [x] H1 G3:=(k1.trans K2).trans k3
   have nx3:G3 x≠none:=by rw[x3];simp
   have f_co:H1 co=none:=fr (F:=[]) k1 (by rw[x1];simp) n2
   have f_le:H1 le=none:=fr (F:=[]) (k1.trans K2) (by rw[x2];simp) n3
   have f_h:H1 h=none:=fr (F:=[]) K3 nx3 nh
   have f_en:H1 en=none:=fr (F:=[]) K3 nx3 (s4.free nen)
   have f_ch:H1 ch=none:=fr (F:=[]) K3 nx3 (s4.free nch)
   have f_sd:H1 sd=none:=fr (F:=[]) K3 nx3 (s4.free nsd)
   have K4:Qr [x] H1 G4:=K3.trans (.of_same s4)
   have K6:Qr [x,h] H1 G6:=((K4.mono (mem1 (by simp))).trans (k5.mono (mem1 (by simp)))).trans (k6.mono (mem1 (by simp)))
   have K6':Qr [x] H G6:=fun p o hp hpo=>by
    have hph:p≠h:=fun z=>by rw[z,s1.free f_h] at hpo;cases hpo
    exact K6 p o (by simp at hp;simp[hp,hph]) (s1 _ _ hpo)
   have M7:∀m∈[x,co,le,h,en,ch,sd]++M0,(∀xs,H1 m≠some (.lst xs))∨H m≠none:=mem7M (P:=fun m=>(∀xs,H1 m≠some (.lst xs))∨H m≠none) (.inl fun xs=>by rw[s1 _ _ hx];simp) (.inl fun xs=>by rw[f_co];simp) (.inl fun xs=>by rw[f_le];simp) (.inl fun xs=>by rw[f_h];simp) (.inl fun xs=>by rw[f_en];simp) (.inl fun xs=>by rw[f_ch];simp) (.inl fun xs=>by rw[f_sd];simp) fun y hy=>.inr (pres0 y hy)
   have O6:=(schedO_of hS M7).keep (M':=[x,co,le,h,en,ch,sd]++M0) K6 (mem2 (by simp) (by simp)) fun y hy=>.inl hy
   refine q ([x,co,le,h,en,ch,sd]++M0) ⟨x,co,le,h,en,ch,sd⟩ G6 rfl K6' (fun y hy=>List.mem_append_right _ hy) (mem7M (.inr (.inl rfl)) (.inr (.inr (s1.free f_co))) (.inr (.inr (s1.free f_le))) (.inr (.inr (s1.free f_h))) (.inr (.inr (s1.free f_en))) (.inr (.inr (s1.free f_ch))) (.inr (.inr (s1.free f_sd))) fun y hy=>.inl hy) (mem7 (.inl rfl) (.inr (s1.free f_co)) (.inr (s1.free f_le)) (.inr (s1.free f_h)) (.inr (s1.free f_en)) (.inr (s1.free f_ch)) (.inr (s1.free f_sd))) ⟨⟨[],[44],⟨by simp,by simp,by simp,⟨dx,sv,x6,O6⟩,c6,l6,hcole,hcoen,hleen,hst_new (by simp) (by simp) (by simp) (by simp) (mem7M (by rw[x6];simp) (by rw[c6];simp) (by rw[l6];simp) (by rw[h6];simp) (by rw[e6];simp) (by rw[ch6];simp) (by rw[sd6];simp) (Yh pres0 K6' (mem1 (by rw[x6];simp)))) h6 e6 ch6 sd6⟩,gb_begun hkey hsalt⟩,by show (Md33.headOf key salt).length≤_;rw[hhl];decide⟩
  ·have hk0:key=none:=by
    cases hk0:key with
    | none=>rfl
    | some k=>rw[hk0] at hz;exact absurd (decide_eq_true (show V.int z=V.int 1 by rw[hz];rfl)) h
   have hS:SchedN H H V.non key:=by rw[hk0];rfl
   have s1:=Same.refl H
   refine ⟨_,rfl,x,_,dx,_,rfl,s1 _ _ hx,T.k_Volume,T.na_Volume_schedule,(show 0<1000 by decide),?_⟩
   have k1:Qr [x] H (upd H x (.ins t.C_Volume dx (putF "schedule" V.non []))):=Qr.upd (by simp)
   have x1:(upd H x (.ins t.C_Volume dx (putF "schedule" V.non []))) x=some (.ins t.C_Volume dx [("schedule",V.non)]):=Zc
   generalize upd H x (.ins t.C_Volume dx (putF "schedule" V.non []))=G1 at *
   have K1:Qr [x] H G1:=(Qr.of_same s1).trans k1
   refine ⟨_,rfl,_,rfl,_,rfl,_,nKey key,sa,ka,salt,key.getD [],rfl,hz,by unfold nKey;split<;>decide,K1 _ _ (by simpa using hsx) hsa,K1 _ _ (by simpa using hkx) hka,by rw[hsalt.len];decide,hkl,hsalt.lt,hkb,fun co H2 s2 n2 e2=>?_⟩
   rw[head_eq] at e2
   refine ⟨_,rfl,x,_,dx,_,rfl,s2 _ _ x1,T.k_Volume,T.na_Volume_content,(show 1<1000 by decide),?_⟩
   have k2:Qr [x] H2 (upd H2 x (.ins t.C_Volume dx (putF "content" (.ref co) [("schedule",V.non)]))):=Qr.upd (by simp)
   have x2:(upd H2 x (.ins t.C_Volume dx (putF "content" (.ref co) [("schedule",V.non)]))) x=some (.ins t.C_Volume dx [("schedule",V.non),("content",.ref co)]):=Zc
   generalize upd H2 x (.ins t.C_Volume dx (putF "content" (.ref co) [("schedule",V.non)]))=G2 at *
   have hxco:x≠co:=fun z=>by rw[z] at x1;rw[x1] at n2;cases n2
   have c2:=k2 _ _ (by simpa using Ne.symm hxco) e2
   have K2:Qr [x] G1 G2:=(Qr.of_same s2).trans k2
   refine ⟨_,rfl,_,_,_,_,_,rfl,x2,T.k_Volume,T.na_Volume_content,rfl,co,_,rfl,.inl (SqL.of c2),(show 1≤sizeLine by decide),fun le n3=>?_⟩
   rw[Zh,hhl]
   have hxle:x≠le:=Zg x2 n3
   have hcole:co≠le:=Zg c2 n3
   refine ⟨_,rfl,x,_,dx,_,rfl,(Zn hxle).trans x2,T.k_Volume,T.na_Volume_lengths,(show 2<1000 by decide),?_⟩
   have k3:Qr [x] G2 (upd (upd G2 le (.lst [V.int (44:Nat)])) x (.ins t.C_Volume dx (putF "lengths" (.ref le) [("schedule",V.non),("content",.ref co)]))):=(Qr.new n3).trans (Qr.upd (by simp))
   have x3:(upd (upd G2 le (.lst [V.int (44:Nat)])) x (.ins t.C_Volume dx (putF "lengths" (.ref le) [("schedule",V.non),("content",.ref co)]))) x=some (.ins t.C_Volume dx [("schedule",V.non),("content",.ref co),("lengths",.ref le)]):=Zc
   have l3:(upd (upd G2 le (.lst [V.int (44:Nat)])) x (.ins t.C_Volume dx (putF "lengths" (.ref le) [("schedule",V.non),("content",.ref co)]))) le=some (.lst (nats [44])):=(Zn (Ne.symm hxle)).trans Zc
   generalize upd (upd G2 le (.lst [V.int (44:Nat)])) x (.ins t.C_Volume dx (putF "lengths" (.ref le) [("schedule",V.non),("content",.ref co)]))=G3 at *
   have c3:=k3 _ _ (by simpa using Ne.symm hxco) c2
   refine fun h dxh nh ndxh hdh=>?_
   have s4:Same G3 (upd (upd G3 dxh (.own h)) h (.ins t.C_History dxh [])):=fun b o eb=>by rw[Zn (Zg eb nh),Zn (Zg eb ndxh)];exact eb
   have h4:(upd (upd G3 dxh (.own h)) h (.ins t.C_History dxh [])) h=some (.ins t.C_History dxh []):=Zc
   generalize upd (upd G3 dxh (.own h)) h (.ins t.C_History dxh [])=G4 at *
   refine ⟨h,dxh,rfl,h4,fun en ch sd G5 k5 nen nch nsd h5 e5 ch5 sd5=>⟨rfl,?_⟩⟩
   have hxh:x≠h:=Zg x3 nh
   have hcoh:co≠h:=Zg c3 nh
   have hleh:le≠h:=Zg l3 nh
   have x5:=k5 _ _ (by simpa using hxh) (s4 _ _ x3)
   have c5:=k5 _ _ (by simpa using hcoh) (s4 _ _ c3)
   have l5:=k5 _ _ (by simpa using hleh) (s4 _ _ l3)
   refine ⟨_,rfl,x,_,dx,_,rfl,x5,T.k_Volume,T.na_Volume_history,(show 3<1000 by decide),?_⟩
   have k6:Qr [x] G5 (upd G5 x (.ins t.C_Volume dx (putF "history" (.ref h) [("schedule",V.non),("content",.ref co),("lengths",.ref le)]))):=Qr.upd (by simp)
   have x6:(upd G5 x (.ins t.C_Volume dx (putF "history" (.ref h) [("schedule",V.non),("content",.ref co),("lengths",.ref le)]))) x=some (.ins t.C_Volume dx (volF V.non co le h)):=Zc
   generalize upd G5 x (.ins t.C_Volume dx (putF "history" (.ref h) [("schedule",V.non),("content",.ref co),("lengths",.ref le)]))=G6 at *
   have hen:en≠x:=fun z=>by rw[z] at e5;rw[x5] at e5;cases e5
   have hch:ch≠x:=fun z=>by rw[z] at ch5;rw[x5] at ch5;cases ch5
   have hsd:sd≠x:=fun z=>by rw[z] at sd5;rw[x5] at sd5;cases sd5
   have hcoen:co≠en:=Zg (s4 _ _ c3) nen
   have hleen:le≠en:=Zg (s4 _ _ l3) nen
   have c6:=k6 _ _ (by simpa using Ne.symm hxco) c5
   have l6:=k6 _ _ (by simpa using Ne.symm hxle) l5
   have h6:=k6 _ _ (by simpa using Ne.symm hxh) h5
   have e6:=k6 _ _ (by simpa using hen) e5
   have ch6:=k6 _ _ (by simpa using hch) ch5
   have sd6:=k6 _ _ (by simpa using hsd) sd5
   have fr:∀{F:List Addr} {A B:Hp} {p:Addr},Qr [x] A B→B x≠none→B p=none→A p=none:=fun k hx' hp=>Je k (mem1 hx') hp
   have K3:Qr [x] H G3:=(k1.trans K2).trans k3
   have nx3:G3 x≠none:=by rw[x3];simp
   have f_co:H co=none:=fr (F:=[]) k1 (by rw[x1];simp) n2
   have f_le:H le=none:=fr (F:=[]) (k1.trans K2) (by rw[x2];simp) n3
   have f_h:H h=none:=fr (F:=[]) K3 nx3 nh
   have f_en:H en=none:=fr (F:=[]) K3 nx3 (s4.free nen)
   have f_ch:H ch=none:=fr (F:=[]) K3 nx3 (s4.free nch)
   have f_sd:H sd=none:=fr (F:=[]) K3 nx3 (s4.free nsd)
   have K4:Qr [x] H G4:=K3.trans (.of_same s4)
   have K6:Qr [x,h] H G6:=((K4.mono (mem1 (by simp))).trans (k5.mono (mem1 (by simp)))).trans (k6.mono (mem1 (by simp)))
   have K6':Qr [x] H G6:=fun p o hp hpo=>by
    have hph:p≠h:=fun z=>by rw[z,s1.free f_h] at hpo;cases hpo
    exact K6 p o (by simp at hp;simp[hp,hph]) (s1 _ _ hpo)
   have M7:∀m∈[x,co,le,h,en,ch,sd]++M0,(∀xs,H m≠some (.lst xs))∨H m≠none:=mem7M (P:=fun m=>(∀xs,H m≠some (.lst xs))∨H m≠none) (.inl fun xs=>by rw[s1 _ _ hx];simp) (.inl fun xs=>by rw[f_co];simp) (.inl fun xs=>by rw[f_le];simp) (.inl fun xs=>by rw[f_h];simp) (.inl fun xs=>by rw[f_en];simp) (.inl fun xs=>by rw[f_ch];simp) (.inl fun xs=>by rw[f_sd];simp) fun y hy=>.inr (pres0 y hy)
   have O6:=(schedO_of hS M7).keep (M':=[x,co,le,h,en,ch,sd]++M0) K6 (mem2 (by simp) (by simp)) fun y hy=>.inl hy
   refine q ([x,co,le,h,en,ch,sd]++M0) ⟨x,co,le,h,en,ch,sd⟩ G6 rfl K6' (fun y hy=>List.mem_append_right _ hy) (mem7M (.inr (.inl rfl)) (.inr (.inr (s1.free f_co))) (.inr (.inr (s1.free f_le))) (.inr (.inr (s1.free f_h))) (.inr (.inr (s1.free f_en))) (.inr (.inr (s1.free f_ch))) (.inr (.inr (s1.free f_sd))) fun y hy=>.inl hy) (mem7 (.inl rfl) (.inr (s1.free f_co)) (.inr (s1.free f_le)) (.inr (s1.free f_h)) (.inr (s1.free f_en)) (.inr (s1.free f_ch)) (.inr (s1.free f_sd))) ⟨⟨[],[44],⟨by simp,by simp,by simp,⟨dx,V.non,x6,O6⟩,c6,l6,hcole,hcoen,hleen,hst_new (by simp) (by simp) (by simp) (by simp) (mem7M (by rw[x6];simp) (by rw[c6];simp) (by rw[l6];simp) (by rw[h6];simp) (by rw[e6];simp) (by rw[ch6];simp) (by rw[sd6];simp) (Yh pres0 K6' (mem1 (by rw[x6];simp)))) h6 e6 ch6 sd6⟩,gb_begun hkey hsalt⟩,by show (Md33.headOf key salt).length≤_;rw[hhl];decide⟩
end
theorem sq_stands {b:Md33.Book} {es:List Md33.Entry} {L:List Nat} (g:GB b es L) {i:Nat} {r:Md33.Record} (h:b.stand.records[i]?=some r):(sqTo b (i+1)).stands=(sqTo b i).stands++[stPut (sqTo b i).stands r.kind r.name r.body]:=by
 have hi:i<b.stand.records.length:=(List.getElem?_eq_some_iff.mp h).1
 have h1:=sqTo_succ h
 have h2:=added_put_eq (sqTo b i) r.kind r.name r.body (sqTo_good g.good i (by omega)).1.ne
 rw[h1] at h2
 exact congrArg Md33.Book.stands (Option.some.inj h2)
theorem sq_few {b:Md33.Book} {es:List Md33.Entry} {L:List Nat} (g:GB b es L) (hl:b.bytes.length≤1048576) {i:Nat} (hi:i≤b.stand.records.length):(sqTo b i).bytes.length≤1048576∧(sqTo b i).stands.length≤40000∧(lastS (sqTo b i).stands).records.length≤40000∧Sorted (lastS (sqTo b i).stands).records:=by
 obtain ⟨L',g'⟩:=gb_sq g i hi
 have h1:=sqTo_len g.good hi
 have h2:(sqTo b i).bytes.length≤1048576:=by omega
 obtain ⟨f1,f2,f3⟩:=g'.few h2
 have hst:(sqTo b i).stand∈(sqTo b i).stands:=Yb g'.good.ne
 refine ⟨h2,f1,f3 _ hst,?_⟩
 show Sorted (sqTo b i).stand.records
 rw[(g'.good.st _ hst).rcs];exact Yp _
theorem mem6 {P:Addr→Prop} {M:List Addr} {b c d e f g:Addr} (hb:P b) (hc:P c) (hd:P d) (he:P e) (hf:P f) (hg:P g) (hM:∀y∈M,P y):∀y∈[b,c,d,e,f,g]++M,P y:=by
 intro y hy
 rcases List.mem_append.mp hy with hy|hy
 ·simp only[List.mem_cons,List.not_mem_nil,or_false] at hy
  rcases hy with rfl|rfl|rfl|rfl|rfl|rfl<;>assumption
 ·exact hM y hy
theorem Off.same {M:List Addr} {H H':Hp} {p:Addr} {o:HO} (h:Off M H p o) (s:Same H H'):Off M H' p o:=⟨s _ _ h.1,h.2⟩
section
variable {P:Program} {w:World} {K:PySem.W.Frag} {mg:Str→Option Value} {base:Heap} {t:Adr}
def sp_Volume_squeeze (t:Adr):Sp:=fun vs H Q _=>∃(M:List Addr) (a:VA) (b:Md33.Book),vs=[.ref a.v]∧Vol t M H a b∧VPost t M H a (Md33.squeezed b) (Q (nV (Md33.squeezed b).count))
theorem ok_Volume_squeeze (T:Txt K mg t):OkM P w K mg base 8 t.C_Volume "squeeze" ["self"] (sp_Volume_squeeze t):=by
 refine okM T.d_Volume_squeeze Yx (fun vs H Q E h=>?_) (fun f cdv A outer s H vs Q E hr h=>?_)
 ·obtain ⟨M,a,b,rfl,X,q⟩:=h
  rfl
 ·obtain ⟨M,a,b,rfl,X,q⟩:=h
  refine ⟨_,(Zb (Zo (i:=1) Yx.nd rfl (Or.inl rfl) (pm0 (Zi (K:=K) rfl (pv 0) rfl) T.k_History (ok_History_records T) hr))
   (Zb (Zo (i:=2) Yx.nd rfl (Or.inl rfl) (pf (ok_in_place_count T) hr (Za (pv 1) Zd)))
   (Zb (Ye (K:=K) rfl (pv 0) (Z1 (Z0 (K:=K) rfl) (Zi (K:=K) rfl (pv 0) rfl) Yt (Zv (Zx (Zl (K:=K) rfl) (Zi (K:=K) rfl (pv 0) rfl) (pv 2) (fun _ _=>rfl)))) rfl)
   (Zb (Ye (K:=K) rfl (pv 0) (Z1 (Z0 (K:=K) rfl) (Zi (K:=K) rfl (pv 0) rfl) Yt (Zv (Zm Z5 (pv 2) Zf))) rfl)
   (Zb (Ye (K:=K) rfl (pv 0) (pk0 (ok_History_init T) hr) rfl)
   (Zb (Y2 PassesOwn.never rfl (J8 (Z1 (Z0 (K:=K) rfl) (pv 1) Yt (Zv (pv 2)))) (Z3 (i:=3) Yx.nd rfl (Or.inl rfl)) (Ze (Z6 (pm (Zi (K:=K) rfl (pv 0) rfl) T.k_History (ok_History_put T) hr (Za (Zi (K:=K) rfl (pv 3) rfl) (Za (Zi (K:=K) rfl (pv 3) rfl) (Za (Zi (K:=K) rfl (pv 3) rfl) Zd)))))))
   (Zb (Y2 PassesOwn.never rfl (J8 (Z1 (Z0 (K:=K) rfl) (pv 1) (Zv (pv 2)) Yt)) (Z3 (i:=3) Yx.nd rfl (Or.inl rfl)) (Ze (Z6 (pm (pv 0) T.k_Volume (ok_Volume_put T) hr (Za (Zi (K:=K) rfl (pv 3) rfl) (Za (pe_callTy (call_listK (K:=K) rfl) rfl T.n_list boot_list (Za (Zi (K:=K) rfl (pv 3) rfl) Zd)) (Za (Zi (K:=K) rfl (pv 3) rfl) Zd)))))))
   (Ze (Zj (Zs (Zq (K:=K) rfl) rfl T.n_len PySem.boot_len (Za (pv 1) Zd))))))))))),?_⟩
  obtain ⟨es,L,X0,g⟩:=X.ex
  have hX:=X.len
  obtain ⟨f1,f2,f3⟩:=g.few hX
  obtain ⟨dx,sv,ov,os⟩:=X0.ov
  obtain ⟨dxh,oh⟩:=X0.hst.hen.oh
  obtain ⟨v1,v2,v3,v4,v5,v6⟩:=X0.dv
  have hst:b.stand∈b.stands:=Yb g.good.ne
  have hso:Sorted b.stand.records:=by rw[(g.good.st _ hst).rcs];exact Yp _
  have hne:∀r∈b.stand.records,r.name≠[]:=fun r hrm=>by
   have h1:=(rec_fits (g.good.st _ hst) hrm).1.2.2.2.1
   intro e
   rw[e] at h1
   exact absurd h1 (by decide)
  have hrl:b.stand.records.length≤40000:=f3 _ hst
  refine ⟨_,rfl,_,_,_,_,_,rfl,ov,T.k_Volume,T.na_Volume_history,rfl,a.h,dxh,_,rfl,oh,rfl,M,a.h,a.en,a.ch,a.sd,b.stands,rfl,X0.hst,hso,hne,by show b.stand.records.length≤_;omega,fun p H1 cs s1 n1 e1 hc=>?_⟩
  have hc:Paired (fun c r=>CR t M H c r) cs b.stand.records:=hc
  have hcl:=Paired.length hc
  have hc1:Paired (fun c r=>CR t M H1 c r) cs b.stand.records:=Paired.mapP hc fun c r d=>d.keep (F:=[]) (.of_same s1) (by simp) fun y hy=>.inl hy
  refine ⟨_,rfl,M,p,cs,b.stand.records,rfl,e1,hc1,fun k hk hkp=>?_⟩
  obtain ⟨L',g'⟩:=gb_sq g k hk
  obtain ⟨hke,hbk,hLk⟩:=kept_prefix g hk hkp g'
  have X1:=X0.same s1
  have ov1:=s1 _ _ ov
  have hLl:k<L.length:=by rw[g.runs.len];omega
  refine ⟨_,rfl,_,_,_,_,_,rfl,ov1,T.k_Volume,T.na_Volume_content,rfl,_,rfl,_,_,_,_,_,rfl,ov1,T.k_Volume,T.na_Volume_lengths,rfl,_,rfl,a.le,_,_,_,rfl,rfl,SqL.of X1.ol,at_n (j:=k) hLl rfl,_,rfl,a.co,_,rfl,SqL.of X1.oc,fun co nco=>?_⟩
  rw[cut_to,hbk]
  have hvco:a.v≠co:=Zg ov1 nco
  refine ⟨_,rfl,a.v,_,dx,_,rfl,(Zn hvco).trans ov1,T.k_Volume,T.na_Volume_content,(show 4<1000 by decide),?_⟩
  have k2:Qr [a.v] H1 (upd (upd H1 co (.lst (nats (sqTo b k).bytes))) a.v (.ins t.C_Volume dx (putF "content" (.ref co) (volF sv a.co a.le a.h)))):=(Qr.new nco).trans (Qr.upd (by simp))
  have x2:(upd (upd H1 co (.lst (nats (sqTo b k).bytes))) a.v (.ins t.C_Volume dx (putF "content" (.ref co) (volF sv a.co a.le a.h)))) a.v=some (.ins t.C_Volume dx (volF sv co a.le a.h)):=Zc
  have c2:(upd (upd H1 co (.lst (nats (sqTo b k).bytes))) a.v (.ins t.C_Volume dx (putF "content" (.ref co) (volF sv a.co a.le a.h)))) co=some (.lst (nats (sqTo b k).bytes)):=(Zn (Ne.symm hvco)).trans Zc
  generalize upd (upd H1 co (.lst (nats (sqTo b k).bytes))) a.v (.ins t.C_Volume dx (putF "content" (.ref co) (volF sv a.co a.le a.h)))=G2 at *
  have l2:=k2 _ _ (by simpa using Ne.symm v2) X1.ol
  refine ⟨_,rfl,_,_,_,_,_,rfl,x2,T.k_Volume,T.na_Volume_lengths,rfl,_,rfl,_,_,rfl,rfl,_,rfl,a.le,_,rfl,SqL.of l2,fun le nle=>?_⟩
  rw[show ((k:Nat):Int)+1=((k+1:Nat):Int) by omega,cut_to,hLk]
  have hvle:a.v≠le:=Zg x2 nle
  have hcole:co≠le:=Zg c2 nle
  refine ⟨_,rfl,a.v,_,dx,_,rfl,(Zn hvle).trans x2,T.k_Volume,T.na_Volume_lengths,(show 4<1000 by decide),?_⟩
  have k3:Qr [a.v] G2 (upd (upd G2 le (.lst (nats L'))) a.v (.ins t.C_Volume dx (putF "lengths" (.ref le) (volF sv co a.le a.h)))):=(Qr.new nle).trans (Qr.upd (by simp))
  have x3:(upd (upd G2 le (.lst (nats L'))) a.v (.ins t.C_Volume dx (putF "lengths" (.ref le) (volF sv co a.le a.h)))) a.v=some (.ins t.C_Volume dx (volF sv co le a.h)):=Zc
  have l3:(upd (upd G2 le (.lst (nats L'))) a.v (.ins t.C_Volume dx (putF "lengths" (.ref le) (volF sv co a.le a.h)))) le=some (.lst (nats L')):=(Zn (Ne.symm hvle)).trans Zc
  generalize upd (upd G2 le (.lst (nats L'))) a.v (.ins t.C_Volume dx (putF "lengths" (.ref le) (volF sv co a.le a.h)))=G3 at *
  have c3:=k3 _ _ (by simpa using Ne.symm hvco) c2
  refine fun h dxh2 nh ndxh hdh=>?_
  have s4:Same G3 (upd (upd G3 dxh2 (.own h)) h (.ins t.C_History dxh2 [])):=fun b o eb=>by rw[Zn (Zg eb nh),Zn (Zg eb ndxh)];exact eb
  have h4:(upd (upd G3 dxh2 (.own h)) h (.ins t.C_History dxh2 [])) h=some (.ins t.C_History dxh2 []):=Zc
  generalize upd (upd G3 dxh2 (.own h)) h (.ins t.C_History dxh2 [])=G4 at *
  refine ⟨h,dxh2,rfl,h4,fun en ch sd G5 k5 nen nch nsd h5 e5 ch5 sd5=>⟨rfl,?_⟩⟩
  have hvh:a.v≠h:=Zg x3 nh
  have hcoh:co≠h:=Zg c3 nh
  have hleh:le≠h:=Zg l3 nh
  have x5:=k5 _ _ (by simpa using hvh) (s4 _ _ x3)
  have c5:=k5 _ _ (by simpa using hcoh) (s4 _ _ c3)
  have l5:=k5 _ _ (by simpa using hleh) (s4 _ _ l3)
  refine ⟨_,rfl,a.v,_,dx,_,rfl,x5,T.k_Volume,T.na_Volume_history,(show 4<1000 by decide),?_⟩
  have k6:Qr [a.v] G5 (upd G5 a.v (.ins t.C_Volume dx (putF "history" (.ref h) (volF sv co le a.h)))):=Qr.upd (by simp)
  have x6:(upd G5 a.v (.ins t.C_Volume dx (putF "history" (.ref h) (volF sv co le a.h)))) a.v=some (.ins t.C_Volume dx (volF sv co le h)):=Zc
  generalize upd G5 a.v (.ins t.C_Volume dx (putF "history" (.ref h) (volF sv co le a.h)))=G6 at *
  have hen:en≠a.v:=fun z=>by rw[z] at e5;rw[x5] at e5;cases e5
  have hch:ch≠a.v:=fun z=>by rw[z] at ch5;rw[x5] at ch5;cases ch5
  have hsd:sd≠a.v:=fun z=>by rw[z] at sd5;rw[x5] at sd5;cases sd5
  have hcoen:co≠en:=Zg (s4 _ _ c3) nen
  have hleen:le≠en:=Zg (s4 _ _ l3) nen
  have c6:=k6 _ _ (by simpa using Ne.symm hvco) c5
  have l6:=k6 _ _ (by simpa using Ne.symm hvle) l5
  have h6:=k6 _ _ (by simpa using Ne.symm hvh) h5
  have e6:=k6 _ _ (by simpa using hen) e5
  have ch6:=k6 _ _ (by simpa using hch) ch5
  have sd6:=k6 _ _ (by simpa using hsd) sd5
  have fr:∀{A B:Hp} {p:Addr},Qr [a.v] A B→B a.v≠none→B p=none→A p=none:=fun k hx' hp=>Je k (mem1 hx') hp
  have nx3:G3 a.v≠none:=by rw[x3];simp
  have K3:Qr [a.v] H1 G3:=k2.trans k3
  have f_le:H1 le=none:=fr k2 (by rw[x2];simp) nle
  have f_h:H1 h=none:=fr K3 nx3 nh
  have f_en:H1 en=none:=fr K3 nx3 (s4.free nen)
  have f_ch:H1 ch=none:=fr K3 nx3 (s4.free nch)
  have f_sd:H1 sd=none:=fr K3 nx3 (s4.free nsd)
  have K6h:Qr [a.v,h] H1 G6:=(((K3.trans (.of_same s4)).mono (mem1 (by simp))).trans (k5.mono (mem1 (by simp)))).trans (k6.mono (mem1 (by simp)))
  have K6:Qr [a.v] H1 G6:=fun y o hy hyo=>by
   have hyh:y≠h:=fun z=>by rw[z,f_h] at hyo;cases hyo
   exact K6h y o (by simp at hy;simp[hy,hyh]) hyo
  have hM2:∀y∈[co,le,h,en,ch,sd]++M,y∈M∨H1 y=none:=mem6 (.inr nco) (.inr f_le) (.inr f_h) (.inr f_en) (.inr f_ch) (.inr f_sd) fun y hy=>.inl hy
  have hvM:∀y∈[a.v],y∈M:=mem1 X0.mv
  have hpres:∀y∈[co,le,h,en,ch,sd]++M,G6 y≠none:=mem6 (by rw[c6];simp) (by rw[l6];simp) (by rw[h6];simp) (by rw[e6];simp) (by rw[ch6];simp) (by rw[sd6];simp) (Yh X1.hst.hen.pres K6 (mem1 (by rw[x6];simp)))
  have hpM:p∉M:=Z8 X0.hst.hen.pres n1
  have op6:Off ([co,le,h,en,ch,sd]++M) G6 p (.lst (cs.map V.ref)):=Off.keep ⟨e1,hpM⟩ K6 hvM hM2
  have hc6:Paired (fun c r=>CR t ([co,le,h,en,ch,sd]++M) G6 c r) cs b.stand.records:=Paired.mapP hc1 fun c r d=>d.keep K6 hvM hM2
  have O6:SchedO ([co,le,h,en,ch,sd]++M) G6 sv b.key:=(os.keep (M':=M) (F:=[]) (.of_same s1) (by simp) fun y hy=>.inl hy).keep K6 hvM hM2
  have V6:Vol0 t ([co,le,h,en,ch,sd]++M) G6 ⟨a.v,co,le,h,en,ch,sd⟩ b.key (sqTo b k).bytes L' [{}]:=
   ⟨List.mem_append_right _ X0.mv,by simp,by simp,⟨dx,sv,x6,O6⟩,c6,l6,hcole,hcoen,hleen,hst_new (by simp) (by simp) (by simp) (by simp) hpres h6 e6 ch6 sd6⟩
  have KH6:Qr (foot a) H G6:=((Qr.of_same s1).trans (K6.mono (mem1 (by simp[foot]))))
  have hfoot2:∀y∈foot ⟨a.v,co,le,h,en,ch,sd⟩,y∈foot a∨H y=none:=mem7 (.inl (by simp[foot])) (.inr (s1.free nco)) (.inr (s1.free f_le)) (.inr (s1.free f_h)) (.inr (s1.free f_en)) (.inr (s1.free f_ch)) (.inr (s1.free f_sd))
  have hM0:∀y∈[co,le,h,en,ch,sd]++M,y∈M∨H y=none:=fun y hy=>(hM2 y hy).imp id fun z=>s1.free z
  have hMsub:∀y∈M,y∈[co,le,h,en,ch,sd]++M:=fun y hy=>List.mem_append_right _ hy
  generalize hM2e:[co,le,h,en,ch,sd]++M=M2 at *
  generalize hae:VA.mk a.v co le h en ch sd=a2 at *
  have hav:a2.v=a.v:=by rw[← hae]
  have hah:a2.h=h:=by rw[← hae]
  clear hcoh hleh x5 c5 l5 k5 k6 k2 k3 K3 K6h x2 x3 c2 c3 l2 l3 h4 h5 e5 ch5 sd5 x6 c6 l6 h6 e6 ch6 sd6 nco nle nh ndxh nen nch nsd fr nx3 f_le f_h f_en f_ch f_sd hpres hM2 O6 s4 hvco hvle hcole hvh hen hch hsd hcoen hleen
  refine ⟨_,rfl,_,rfl,_,rfl,p,_,rfl,SqL.of op6.1,fun p1 np1=>?_⟩
  have ecut1:cutV (cs.map V.ref) none (some ((k:Nat):Int))=(cs.take k).map V.ref:=by
   unfold cutV
   rw[HT.sIx_nat,HT.sIx_none,List.length_map,List.drop_zero,Nat.sub_zero,Nat.min_eq_left (by omega),List.map_take]
  rw[ecut1]
  have s7:=Zk (o:=.lst ((cs.take k).map V.ref)) np1
  have hp1M:p1∉M2:=Z8 V6.hst.hen.pres np1
  have e7:(upd G6 p1 (.lst ((cs.take k).map V.ref))) p1=some (.lst ((cs.take k).map V.ref)):=Zc
  generalize upd G6 p1 (.lst ((cs.take k).map V.ref))=G7 at *
  have V7:=V6.same s7
  have hc7:Paired (fun c r=>CR t M2 G7 c r) cs b.stand.records:=Paired.mapP hc6 fun c r d=>d.keep (F:=[]) (.of_same s7) (by simp) fun y hy=>.inl hy
  refine ⟨p1,rfl,⟨_,SqL.of e7⟩,for_list (xs:=(cs.take k).map V.ref) (fun j σ H3=>∃v3,σ=[some (.ref a.v),some (.ref p),some (.int (k:Nat)),v3]∧j≤k∧Qr [a2.en,a2.ch,a2.sd] G7 H3∧Vol0 t M2 H3 a2 b.key (sqTo b k).bytes L' (sqTo b j).stands) ⟨none,rfl,Nat.zero_le _,Qr.refl _ _,V7⟩ ?_ ?_ ?_⟩
  ·rintro j σ H3 hj ⟨v3',rfl,hjk,K7,V3⟩
   refine SqL.of (K7 _ _ (fun z=>hp1M ?_) e7)
   exact mem3 V3.hst.hen.me V3.hst.hen.mc V3.hst.hen.ms _ z
  ·rintro j x σ H3 hx ⟨v3',rfl,hjk,K7,V3⟩
   have hjlt:j<k:=by
    have:=(List.getElem?_eq_some_iff.mp hx).1
    rw[List.length_map,List.length_take] at this
    omega
   rw[List.getElem?_map,List.getElem?_take_of_lt hjlt] at hx
   cases hci:cs[j]? with
   | none=>rw[hci] at hx;cases hx
   | some c=>
    rw[hci] at hx
    have hx':V.ref c=x:=Option.some.inj hx
    subst hx'
    obtain ⟨r,hri,hcr⟩:=Xr hc7 hci
    obtain ⟨ear,dxc,q1,bd,oc,on,ob⟩:=hcr.keep K7 (mem3 V3.hst.hen.me V3.hst.hen.mc V3.hst.hen.ms) fun y hy=>.inl hy
    obtain ⟨dx3,sv3,ov3,os3⟩:=V3.ov
    rw[hav] at ov3
    obtain ⟨dxh3,oh3⟩:=V3.hst.hen.oh
    obtain ⟨w1,w2,w3,w4⟩:=sq_few g hX (i:=j) (by omega)
    refine ⟨_,rfl,_,_,_,_,_,rfl,ov3,T.k_Volume,T.na_Volume_history,rfl,a2.h,dxh3,_,rfl,oh3,rfl,_,rfl,_,_,_,_,_,rfl,oc.1,T.k_Change,T.na_Change_kind,rfl,_,rfl,_,_,_,_,_,rfl,oc.1,T.k_Change,T.na_Change_name,rfl,_,rfl,_,_,_,_,_,rfl,oc.1,T.k_Change,T.na_Change_body,rfl,M2,a2.h,a2.en,a2.ch,a2.sd,q1,bd,(sqTo b j).stands,_,r.kind,r.name,r.body,rfl,rfl,V3.hst,by omega,by omega,w4,.inr on,ob,fun H4 k4 X4=>?_⟩
    rw[← sq_stands g hri] at X4
    have hF3:∀y∈[a2.en,a2.ch,a2.sd],y=a2.h∨y=a2.en∨y=a2.ch∨y=a2.sd:=mem3 (.inr (.inl rfl)) (.inr (.inr (.inl rfl))) (.inr (.inr (.inr rfl)))
    have V4:=V3.hist (sd':=a2.sd) k4 hF3 (fun y hy=>hy) (fun y hy=>.inl hy) X4
    exact ⟨_,rfl,hjlt,K7.trans k4,V4⟩
  ·rintro σ H3 ⟨v3',rfl,_,K7,V3⟩
   have hlk:((cs.take k).map V.ref).length=k:=by rw[List.length_map,List.length_take];omega
   rw[hlk] at V3
   have hF7:∀y∈[a2.en,a2.ch,a2.sd],y∈M2:=mem3 V3.hst.hen.me V3.hst.hen.mc V3.hst.hen.ms
   have op3:Off M2 H3 p (.lst (cs.map V.ref)):=(op6.same s7).keep1 K7 hF7
   have hVk:Vol t M2 H3 a2 (sqTo b k):=by
    refine ⟨⟨_,L',?_,g'⟩,(sq_few g hX hk).1⟩
    rw[(sqTo_key k).1]
    exact V3
   have hc8:Paired (fun c r=>CR t M2 H3 c r) cs b.stand.records:=Paired.mapP hc7 fun c r d=>d.keep K7 hF7 fun y hy=>.inl hy
   refine ⟨_,rfl,_,rfl,_,rfl,p,_,rfl,SqL.of op3.1,fun p2 np2=>?_⟩
   have ecut2:cutV (cs.map V.ref) (some ((k:Nat):Int)) none=(cs.drop k).map V.ref:=by
    unfold cutV
    rw[HT.sIx_nat,HT.sIx_none,List.length_map,Nat.min_eq_left (by omega),List.map_drop,List.take_of_length_le (by rw[List.length_drop,List.length_map];exact Nat.le_refl _)]
   rw[ecut2]
   have s8:=Zk (o:=.lst ((cs.drop k).map V.ref)) np2
   have hp2M:p2∉M2:=Z8 V3.hst.hen.pres np2
   have e8:(upd H3 p2 (.lst ((cs.drop k).map V.ref))) p2=some (.lst ((cs.drop k).map V.ref)):=Zc
   generalize upd H3 p2 (.lst ((cs.drop k).map V.ref))=G8 at *
   have hVk8:Vol t M2 G8 a2 (sqTo b k):=by
    obtain ⟨es',L2,A,B⟩:=hVk.ex
    exact ⟨⟨es',L2,A.same s8,B⟩,hVk.len⟩
   have KG8:Qr (foot a2) G6 G8:=((Qr.of_same s7).trans (K7.mono (mem3 (by simp[foot]) (by simp[foot]) (by simp[foot])))).trans (.of_same s8)
   have op8:=op3.same s8
   have hc9:Paired (fun c r=>CR t M2 G8 c r) cs b.stand.records:=Paired.mapP hc8 fun c r d=>d.keep (F:=[]) (.of_same s8) (by simp) fun y hy=>.inl hy
   have hdl:((cs.drop k).map V.ref).length=b.stand.records.length-k:=by rw[List.length_map,List.length_drop,hcl]
   refine ⟨p2,rfl,⟨_,SqL.of e8⟩,for_list (xs:=(cs.drop k).map V.ref) (fun i σ H4=>∃v3,σ=[some (.ref a.v),some (.ref p),some (.int (k:Nat)),v3]∧Qr (foot a2) G8 H4∧Vol t M2 H4 a2 (sqTo b (k+i))) ⟨_,rfl,Qr.refl _ _,hVk8⟩ ?_ ?_ ?_⟩
   ·rintro i σ H4 hi ⟨v3'',rfl,K8,V4⟩
    obtain ⟨es4,L4,A4,B4⟩:=V4.ex
    exact SqL.of (K8 _ _ (fun z=>hp2M (Ju A4 _ z)) e8)
   ·rintro i x σ H4 hx ⟨v3'',rfl,K8,V4⟩
    have hilt:i<b.stand.records.length-k:=by
     have:=(List.getElem?_eq_some_iff.mp hx).1
     omega
    rw[List.getElem?_map,List.getElem?_drop] at hx
    cases hci:cs[k+i]? with
    | none=>rw[hci] at hx;cases hx
    | some c=>
     rw[hci] at hx
     have hx':V.ref c=x:=Option.some.inj hx
     subst hx'
     obtain ⟨r,hri,hcr⟩:=Xr hc9 hci
     obtain ⟨es4,L4,A4,B4⟩:=V4.ex
     obtain ⟨ear,dxc,q1,bd,oc,on,ob⟩:=hcr.keep K8 (Ju A4) fun y hy=>.inl hy
     obtain ⟨dx4,sv4,ov4,os4⟩:=A4.ov
     rw[hav] at ov4
     have hrm:r∈b.stand.records:=List.mem_of_getElem? hri
     have hfit:=(rec_fits (g.good.st _ hst) hrm).1
     refine ⟨_,rfl,a.v,dx4,_,rfl,ov4,rfl,_,rfl,_,_,_,_,_,rfl,oc.1,T.k_Change,T.na_Change_kind,rfl,_,rfl,_,_,_,_,_,rfl,oc.1,T.k_Change,T.na_Change_name,rfl,q1,_,rfl,.inr (SqT.of on.1),fun nm nnm=>?_⟩
     have s9:=Zk (o:=.lst (nats (entName (.put r.kind r.name r.body)))) nnm
     have onm:Off M2 (upd H4 nm (.lst (nats (entName (.put r.kind r.name r.body))))) nm (.lst (nats r.name)):=⟨Zc,Z8 A4.hst.hen.pres nnm⟩
     generalize upd H4 nm (.lst (nats (entName (.put r.kind r.name r.body))))=G9 at *
     refine ⟨_,rfl,_,_,_,_,_,rfl,(s9 _ _ oc.1),T.k_Change,T.na_Change_body,rfl,M2,a2,nm,bd,sqTo b (k+i),_,r.kind,r.name,r.body,by rw[hav];rfl,rfl,⟨⟨es4,L4,A4.same s9,B4⟩,V4.len⟩,onm,ob.same s9,hfit,fun c' hc'=>?_⟩
     have hcc:=sqTo_succ hri
     rw[hc'] at hcc
     have hcc':c'=sqTo b (k+i+1):=Option.some.inj hcc
     subst hcc'
     have hfl:=(sq_few g hX (i:=k+i+1) (by omega)).1
     refine ⟨fun hz=>absurd hfl (by omega),fun _ H5 k5 V5=>?_⟩
     exact ⟨_,rfl,(K8.trans (.of_same s9)).trans k5,V5⟩
   ·rintro σ H4 ⟨v3'',rfl,K8,V4⟩
    rw[hdl,show k+(b.stand.records.length-k)=b.stand.records.length by omega,← squeezed_eq] at V4
    obtain ⟨es4,L4,A4,B4⟩:=V4.ex
    have op9:Off M2 H4 p (.lst (cs.map V.ref)):=op8.keep1 K8 (Ju A4)
    refine ⟨_,rfl,p,_,rfl,.inl (SqL.of op9.1),?_⟩
    have hcnt:(Md33.squeezed b).count=b.stand.records.length:=by
     rw[squeezed_eq]
     exact (sqTo_good g.good _ (Nat.le_refl _)).2.1
    have KH4:Qr (foot a) H H4:=fun y o hy hyo=>by
     have hy2:y∉foot a2:=fun z=>by
      rcases hfoot2 y z with z|z
      ·exact hy z
      ·rw[hyo] at z;cases z
     exact (KG8.trans K8) y o hy2 (KH6 y o hy hyo)
    have:=q a2 M2 H4 hav KH4 hMsub hM0 hfoot2 V4
    rw[List.length_map,hcl]
    rw[hcnt] at this
    exact this
end
def afterS (sts:List Md33.Stand):Md33.Entry→Option Md33.Stand
 | .put kind name body=>some (stPut sts kind name body)
 | .drop name=>if ((lastS sts).find name).isSome=true then some (stDrop sts name) else none
 | .back k=>sts[k]?
theorem after_eq (b:Md33.Book) (hn:b.stands≠[]) (e:Md33.Entry):Md33.after b e=afterS b.stands e:=by
 have hc:b.count+1=b.stands.length:=by
  have:=List.length_pos_iff.mpr hn
  unfold Md33.Book.count
  omega
 cases e with
 | put kind name body=>
  show some _=some _
  unfold stPut
  rw[← hc];rfl
 | drop name=>
  show (if _ then some _ else none)=(if _ then some _ else none)
  unfold stDrop
  rw[← hc];rfl
 | back k=>rfl
structure HG (sts:List Md33.Stand):Prop where
 few:sts.length≤40000
 st:∀st∈sts,st.records.length≤40000∧st.records=replay st.way∧ValidW st.way
theorem GB.hg {b:Md33.Book} {es:List Md33.Entry} {L:List Nat} (g:GB b es L) (hl:b.bytes.length≤1048576):HG b.stands:=by
 obtain ⟨f1,_,f3⟩:=g.few hl
 exact ⟨f1,fun st hst=>⟨f3 st hst,(g.good.st st hst).rcs,g.valid st hst⟩⟩
def TakeP (t:Adr) (M:List Addr) (H:Hp) (h en ch sd:Addr) (sts:List Md33.Stand) (l:List Nat) (Q:VK):Prop:=
 (∀e st,Md33.entryOf l=some e→afterS sts e=some st→∀M' sd' H',(sd'=sd∨H sd'=none)→Qr [h,en,ch,sd] H H'→(∀y∈M,y∈M')→(∀y∈M',y∈M∨H y=none)→Hst t M' H' h en ch sd' (sts++[st])→Q (.bl true) H') ∧
 ((Md33.entryOf l).bind (afterS sts)=none→∀H',Same H H'→Q (.bl false) H')
def nameOk (l:List Nat) (i n:Nat):Prop:=l[i]?=some n∧1≤n∧n≤64∧i+1+n≤l.length
theorem mem4 {P:Addr→Prop} {a b c d:Addr} (ha:P a) (hb:P b) (hc:P c) (hd:P d):∀y∈[a,b,c,d],P y:=by
 intro y hy
 simp only[List.mem_cons,List.not_mem_nil,or_false] at hy
 rcases hy with rfl|rfl|rfl|rfl<;>assumption
section
variable {P:Program} {w:World} {K:PySem.W.Frag} {mg:Str→Option Value} {base:Heap} {t:Adr}
def sp_name_at :Sp:=fun vs H Q _=>∃(p:Addr) (l:List Nat) (z:Int) (i:Nat),vs=[.ref p,.int z]∧z=(i:Int)∧H p=some (.lst (nats l)) ∧
 (∀n,nameOk l i n→∀r H',Same H H'→H r=none→H' r=some (.lst (nats ((l.drop (i+1)).take n)))→Q (.ref r) H')∧((∀n,¬ nameOk l i n)→Q .non H)
theorem ok_name_at (T:Txt K mg t):OkF P w K mg base 2 "name_at" ["plain","place"] (sp_name_at ):=by
 refine okF T.d_name_at sc_name_at (fun vs H Q E h=>?_) (fun f cdv A outer s H vs Q E hr h=>?_)
 ·obtain ⟨p,l,_,i,rfl,rfl,hp,q1,q2⟩:=h
  rfl
 ·obtain ⟨p,l,_,i,rfl,rfl,hp,q1,q2⟩:=h
  refine ⟨_,(Zb (Z4 (PW.pt (pw_or (Zu op_ge (pv 1) (Zs (Zq (K:=K) rfl) rfl T.n_len PySem.boot_len (Za (pv 0) Zd)) (Qv _)) (pw_or1 (Xa (Ji (pf (Yz T) hr (Za (Zx (Zl (K:=K) rfl) (pv 0) (pv 1) (fun _ _=>rfl)) Zd))))))) (Ze (Zj pe_non)) Zr)
   (Zb (Zo (i:=2) sc_name_at.nd rfl (Or.inl rfl) (Zm Z5 (pv 1) Zf))
   (Zb (Zo (i:=3) sc_name_at.nd rfl (Or.inl rfl) (Zm Z5 (pv 2) (Zx (Zl (K:=K) rfl) (pv 0) (pv 1) (fun _ _=>rfl))))
   (Ze (Zj (pe_ifExp (Zu Xm (pv 3) (Zs (Zq (K:=K) rfl) rfl T.n_len PySem.boot_len (Za (pv 0) Zd)) (Qv _)) (Z1 (Z0 (K:=K) rfl) (pv 0) (Zv (pv 2)) (Zv (pv 3))) pe_non)))))),?_⟩
  refine ⟨_,rfl,_,rfl,p,_,rfl,.inl (SqL.of hp),_,_,rfl,rfl,_,rfl,ite2 (fun h=>iteT ?_) fun h=>?_⟩
  ·refine q2 fun n ⟨h1,_⟩=>?_
   have:=of_decide_eq_true h
   rw[Zh] at this
   have:=(List.getElem?_eq_some_iff.mp h1).1
   omega
  have hi:i<l.length:=by
   refine Nat.lt_of_not_le fun z=>h (decide_eq_true ?_)
   rw[Zh];omega
  have hget:l[i]?=some (l.getD i 0):=Jd hi
  refine ⟨_,rfl,_,rfl,rix i hp rfl hi ⟨_,rfl,_,rfl,?_⟩⟩
  by_cases hw:1≤l.getD i 0∧l.getD i 0≤64
  ·have hwt:Md33.within ((l.getD i 0:Nat):Int) 1 64=true:=by
    unfold Md33.within
    rw[decide_eq_true (show (1:Int)≤((l.getD i 0:Nat):Int) by omega),decide_eq_true (show ((l.getD i 0:Nat):Int)≤64 by omega)];rfl
   rw[hwt]
   refine iteF ?_
   refine ⟨_,rfl,_,_,rfl,rfl,_,rfl,_,rfl,_,rfl,rix i hp rfl hi ⟨_,_,rfl,rfl,?_⟩⟩
   refine ⟨_,rfl,_,rfl,p,_,rfl,.inl (SqL.of hp),_,_,rfl,rfl,_,rfl,ite2 (fun h2=>?_) fun h2=>?_⟩
   ·have h3:i+1+l.getD i 0≤l.length:=by
     have:=of_decide_eq_true h2
     rw[Zh] at this
     omega
    refine ⟨_,rfl,_,rfl,_,rfl,_,rfl,_,rfl,p,_,rfl,SqL.of hp,fun r hnr=>?_⟩
    rw[show ((i:Nat):Int)+1=((i+1:Nat):Int) by omega,show ((i+1:Nat):Int)+((l.getD i 0:Nat):Int)=((i+1+l.getD i 0:Nat):Int) by omega,cut_nn,show i+1+l.getD i 0-(i+1)=l.getD i 0 by omega]
    exact q1 _ ⟨hget,hw.1,hw.2,h3⟩ r _ (Zk hnr) hnr Zc
   ·refine q2 fun n ⟨h4,_,_,h5⟩=>h2 (decide_eq_true ?_)
    rw[hget] at h4
    cases h4
    rw[Zh];omega
  ·have hwt:Md33.within ((l.getD i 0:Nat):Int) 1 64=false:=by
    unfold Md33.within
    by_cases h1:1≤l.getD i 0
    ·rw[decide_eq_false (show ¬ ((l.getD i 0:Nat):Int)≤64 by omega),Bool.and_false]
    ·rw[decide_eq_false (show ¬ (1:Int)≤((l.getD i 0:Nat):Int) by omega),Bool.false_and]
   rw[hwt]
   refine iteT ?_
   refine q2 fun n ⟨h4,h5,h6,_⟩=>hw ?_
   rw[hget] at h4
   cases h4
   exact ⟨h5,h6⟩
theorem entryOf_put (k n:Nat) (r:List Nat):Md33.entryOf (1::k::n::r)=if 1≤n∧n≤64∧n≤r.length∧r.length≤n+65536 then some (.put k (r.take n) (r.drop n)) else none:=rfl
theorem entryOf_drop (n:Nat) (r:List Nat):Md33.entryOf (2::n::r)=if 1≤n∧n≤64∧r.length=n then some (.drop r) else none:=rfl
def sp_take_put (t:Adr):Sp:=fun vs H Q _=>∃(M:List Addr) (h en ch sd p:Addr) (sts:List Md33.Stand) (r:List Nat),vs=[.ref h,.ref p]∧Hst t M H h en ch sd sts∧HG sts∧Off M H p (.lst (nats (1::r)))∧TakeP t M H h en ch sd sts (1::r) Q
theorem ok_take_put (T:Txt K mg t):OkF P w K mg base 5 "take_put" ["history","plain"] (sp_take_put t):=by
 refine okF T.d_take_put sc_take_put (fun vs H Q E h=>?_) (fun f cdv A outer s H vs Q E hr h=>?_)
 ·obtain ⟨M,h,en,ch,sd,p,sts,r,rfl,X,hG,hp,q1,q2⟩:=h
  rfl
 ·obtain ⟨M,h,en,ch,sd,p,sts,r,rfl,X,hG,hp,q1,q2⟩:=h
  refine ⟨_,(Zb (Zo (i:=2) sc_take_put.nd rfl (Or.inl rfl) (pf (ok_name_at T) hr (Za (pv 1) (Za Zf Zd))))
   (Zb (Z4 (Zu op_isN (pv 2) pe_non (Qv _)) (Ze (Zj Jz)) Zr)
   (Zb (Zo (i:=3) sc_take_put.nd rfl (Or.inl rfl) (Z1 (Z0 (K:=K) rfl) (pv 1) (Zv (Zm Z5 Zf (Zs (Zq (K:=K) rfl) rfl T.n_len PySem.boot_len (Za (pv 2) Zd)))) Yt))
   (Zb (Z4 (Zu op_gt (Zs (Zq (K:=K) rfl) rfl T.n_len PySem.boot_len (Za (pv 3) Zd)) (pgi rfl T.c_MOST_BODY_BYTES) (Qv _)) (Ze (Zj Jz)) Zr)
   (Zb (Z6 (pm (pv 0) T.k_History (ok_History_put T) hr (Za (Zx (Zl (K:=K) rfl) (pv 1) Zf (fun _ _=>rfl)) (Za (pv 2) (Za (pv 3) Zd)))))
   (Ze (Zj Jz))))))),?_⟩
  refine ⟨_,rfl,p,1::r,_,2,rfl,rfl,hp.1,fun n hn r1 H1 s1 n1 e1=>?_,fun hno=>?_⟩
  ·refine ⟨_,rfl,rfl,_,rfl,iteF ?_⟩
   obtain ⟨a1,a2,a3,a4⟩:=hn
   match r,a1,a4,hp,e1,q1,q2 with
   | k::m::r',a1,a4,hp,e1,q1,q2=>
    have em:m=n:=Option.some.inj a1
    subst em
    have hlen:m≤r'.length:=by simp at a4;omega
    have e1:H1 r1=some (.lst (nats (r'.take m))):=e1
    have hp1:=hp.same s1
    refine ⟨_,rfl,_,rfl,r1,_,rfl,.inl (SqL.of e1),_,_,rfl,rfl,_,rfl,p,_,rfl,SqL.of hp1.1,fun r2 n2=>?_⟩
    rw[Zh,List.length_take,Nat.min_eq_left hlen,show (3:Int)+((m:Nat):Int)=((3+m:Nat):Int) by omega,cut_from]
    have edr:(1::k::m::r').drop (3+m)=r'.drop m:=by rw[Nat.add_comm];rfl
    rw[edr]
    obtain ⟨s2,e2⟩:=Zp (o:=.lst (nats (r'.drop m))) n2
    generalize upd H1 r2 (.lst (nats (r'.drop m)))=G2 at *
    refine ⟨_,rfl,r2,_,rfl,.inl (SqL.of e2),_,_,rfl,rfl,_,rfl,ite2 (fun h2=>?_) fun h2=>?_⟩
    ·have h3:65536<r'.length-m:=by
      have:=of_decide_eq_true h2
      rw[Zh,List.length_drop] at this
      omega
     refine q2 ?_ G2 (s1.trans s2)
     rw[entryOf_put,if_neg (by omega)];rfl
    ·have h3:r'.length≤m+65536:=by
      refine Nat.le_of_not_lt fun z=>h2 (decide_eq_true ?_)
      rw[Zh,List.length_drop]
      omega
     have X2:=(X.same s1).same s2
     have hp2:=hp1.same s2
     obtain ⟨dxh,oh⟩:=X2.hen.oh
     have hls:=lastS_mem X.ne
     obtain ⟨w1,w2,w3⟩:=hG.st _ hls
     have hf:=hG.few
     have ob2:Off M G2 r2 (.lst (nats (r'.drop m))):=⟨e2,Z8 (X.same s1).hen.pres n2⟩
     refine ⟨_,rfl,h,dxh,_,rfl,oh,rfl,_,rfl,p,_,_,_,rfl,rfl,SqL.of hp2.1,at_n (j:=1) (by simp) rfl,_,rfl,_,rfl,M,h,en,ch,sd,r1,r2,sts,_,k,r'.take m,r'.drop m,rfl,rfl,X2,by omega,by omega,by rw[w2];exact Yp _,.inl (s2 _ _ e1),ob2,fun H3 k3 X3=>?_⟩
     refine q1 (.put k (r'.take m) (r'.drop m)) _ (by rw[entryOf_put,if_pos ⟨a2,a3,hlen,h3⟩]) rfl M sd H3 (.inl rfl) (((Qr.of_same (s1.trans s2)).trans k3).mono (mem3 (by simp) (by simp) (by simp))) (fun y hy=>hy) (fun y hy=>.inl hy) X3
  ·refine ⟨_,rfl,rfl,_,rfl,iteT ?_⟩
   refine q2 ?_ H (Same.refl _)
   match r,hno with
   | [],_=>rfl
   | [_],_=>rfl
   | k::m::r',hno=>
    rw[entryOf_put,if_neg (fun ⟨a1,a2,a3,a4⟩=>hno m ⟨rfl,a1,a2,by simp;omega⟩)];rfl
def sp_take_drop (t:Adr):Sp:=fun vs H Q _=>∃(M:List Addr) (h en ch sd p:Addr) (sts:List Md33.Stand) (r:List Nat),vs=[.ref h,.ref p]∧Hst t M H h en ch sd sts∧HG sts∧Off M H p (.lst (nats (2::r)))∧TakeP t M H h en ch sd sts (2::r) Q
theorem ok_take_drop (T:Txt K mg t):OkF P w K mg base 5 "take_drop" ["history","plain"] (sp_take_drop t):=by
 refine okF T.d_take_drop sc_take_drop (fun vs H Q E h=>?_) (fun f cdv A outer s H vs Q E hr h=>?_)
 ·obtain ⟨M,h,en,ch,sd,p,sts,r,rfl,X,hG,hp,q1,q2⟩:=h
  rfl
 ·obtain ⟨M,h,en,ch,sd,p,sts,r,rfl,X,hG,hp,q1,q2⟩:=h
  refine ⟨_,(Zb (Zo (i:=2) sc_take_drop.nd rfl (Or.inl rfl) (pf (ok_name_at T) hr (Za (pv 1) (Za Zf Zd))))
   (Zb (Z4 (PW.pt (pw_or (Zu op_isN (pv 2) pe_non (Qv _)) (pw_or (Zu op_gt (Zs (Zq (K:=K) rfl) rfl T.n_len PySem.boot_len (Za (pv 1) Zd)) (Zm Z5 Zf (Zs (Zq (K:=K) rfl) rfl T.n_len PySem.boot_len (Za (pv 2) Zd))) (Qv _)) (pw_or1 (Zu op_isN (pm (pv 0) T.k_History (Jt T) hr (Za (pv 2) Zd)) pe_non (Qv _)))))) (Ze (Zj Jz)) Zr)
   (Zb (Z6 (pm (pv 0) T.k_History (ok_History_drop T) hr (Za (pv 2) Zd)))
   (Ze (Zj Jz))))),?_⟩
  have hf:=hG.few
  refine ⟨_,rfl,p,2::r,_,1,rfl,rfl,hp.1,fun n hn r1 H1 s1 n1 e1=>?_,fun hno=>?_⟩
  ·refine ⟨_,rfl,rfl,_,rfl,iteF ?_⟩
   obtain ⟨a1,a2,a3,a4⟩:=hn
   match r,a1,a4,hp,e1,q1,q2 with
   | m::r',a1,a4,hp,e1,q1,q2=>
    have em:m=n:=Option.some.inj a1
    subst em
    have hlen:m≤r'.length:=by simp at a4;omega
    have e1:H1 r1=some (.lst (nats (r'.take m))):=e1
    have hp1:=hp.same s1
    have X1:=X.same s1
    refine ⟨_,rfl,p,_,rfl,.inl (SqL.of hp1.1),_,rfl,r1,_,rfl,.inl (SqL.of e1),_,_,rfl,rfl,_,_,rfl,rfl,_,rfl,ite2 (fun h2=>iteT ?_) fun h2=>?_⟩
    ·have h3:¬ r'.length=m:=by
      have:=of_decide_eq_true h2
      rw[Zh,Zh,List.length_take,Nat.min_eq_left hlen] at this
      simp only[List.length_cons] at this
      omega
     refine q2 ?_ H1 s1
     rw[entryOf_drop,if_neg (fun ⟨_,_,z⟩=>h3 z)];rfl
    ·have h3:r'.length=m:=by
      by_cases z:r'.length=m
      ·exact z
      ·refine absurd (decide_eq_true ?_) h2
       rw[Zh,Zh,List.length_take,Nat.min_eq_left hlen]
       simp only[List.length_cons]
       omega
     have etk:r'.take m=r':=List.take_of_length_le (by omega)
     rw[etk] at e1
     have hent:Md33.entryOf (2::m::r')=some (.drop r'):=by rw[entryOf_drop,if_pos ⟨a2,a3,h3⟩]
     obtain ⟨dxh,oh⟩:=X1.hen.oh
     refine ⟨_,rfl,h,dxh,_,rfl,oh,rfl,_,rfl,M,h,en,ch,sd,r1,sts,r',rfl,X1,e1,fun H2 rc c s2 hrm hrn hc=>?_,fun H2 s2 hno=>?_⟩
     ·refine ⟨rfl,_,rfl,iteF ?_⟩
      have X2:=X1.same s2
      obtain ⟨dxh2,oh2⟩:=X2.hen.oh
      have hsome:((lastS sts).find r').isSome=true:=by
       cases hq:(lastS sts).find r' with
       | none=>exact absurd hrn (find_none.mp hq rc hrm)
       | some x=>rfl
      refine ⟨_,rfl,h,dxh2,_,rfl,oh2,rfl,_,rfl,M,h,en,ch,sd,r1,sts,r',rfl,X2,by omega,⟨rc,hrm,hrn⟩,.inl (s2 _ _ e1),fun H3 k3 X3=>?_⟩
      exact q1 (.drop r') _ hent (if_pos hsome) M sd H3 (.inl rfl) (((Qr.of_same (s1.trans s2)).trans k3).mono (mem3 (by simp) (by simp) (by simp))) (fun y hy=>hy) (fun y hy=>.inl hy) X3
     ·refine ⟨rfl,_,rfl,iteT ?_⟩
      refine q2 ?_ H2 (s1.trans s2)
      rw[hent]
      show (if ((lastS sts).find r').isSome=true then some (stDrop sts r') else none)=none
      have:(lastS sts).find r'=none:=find_none.mpr hno
      rw[this];rfl
  ·refine ⟨_,rfl,rfl,_,rfl,iteT (iteT ?_)⟩
   refine q2 ?_ H (Same.refl _)
   match r,hno with
   | [],_=>rfl
   | m::r',hno=>
    rw[entryOf_drop,if_neg (fun ⟨a1,a2,a3⟩=>hno m ⟨rfl,a1,a2,by simp;omega⟩)];rfl
def sp_take_back (t:Adr):Sp:=fun vs H Q _=>∃(M:List Addr) (h en ch sd p:Addr) (sts:List Md33.Stand) (r:List Nat),vs=[.ref h,.ref p]∧Hst t M H h en ch sd sts∧HG sts∧Off M H p (.lst (nats (3::r)))∧TakeP t M H h en ch sd sts (3::r) Q
theorem ok_take_back (T:Txt K mg t):OkF P w K mg base 3 "take_back" ["history","plain"] (sp_take_back t):=by
 refine okF T.d_take_back sc_take_back (fun vs H Q E h=>?_) (fun f cdv A outer s H vs Q E hr h=>?_)
 ·obtain ⟨M,h,en,ch,sd,p,sts,r,rfl,X,hG,hp,q1,q2⟩:=h
  rfl
 ·obtain ⟨M,h,en,ch,sd,p,sts,r,rfl,X,hG,hp,q1,q2⟩:=h
  refine ⟨_,(Zb (Z4 (Zu op_ne (Zs (Zq (K:=K) rfl) rfl T.n_len PySem.boot_len (Za (pv 1) Zd)) (pgi rfl T.c_BACK_BYTES) (Qv _)) (Ze (Zj Jz)) Zr)
   (Zb (Zo (i:=2) sc_take_back.nd rfl (Or.inl rfl) (pf (Js T) hr (Za (Z1 (Z0 (K:=K) rfl) (pv 1) (Zv Zf) Yt) Zd)))
   (Zb (Z4 (Zu op_gt (pv 2) (pm0 (pv 0) T.k_History (Z7 T) hr) (Qv _)) (Ze (Zj Jz)) Zr)
   (Zb (Z6 (pm (pv 0) T.k_History (ok_History_back T) hr (Za (pv 2) Zd)))
   (Ze (Zj Jz)))))),?_⟩
  have hf:=hG.few
  have hE:0<(sts.map endOf).length:=by rw[List.length_map];exact List.length_pos_iff.mpr X.ne
  refine ⟨_,rfl,p,_,rfl,.inl (SqL.of hp.1),rfl,_,rfl,ite2 (fun h2=>?_) fun h2=>?_⟩
  ·refine q2 ?_ H (Same.refl _)
   match r,h2 with
   | [],_=>rfl
   | [_],_=>rfl
   | [_,_],_=>rfl
   | [_,_,_],_=>rfl
   | [_,_,_,_],h2=>exact absurd h2 (show ¬ (!decide (V.int 5=V.int 5))=true by decide)
   | _::_::_::_::_::_,_=>rfl
  ·have hl4:r.length=4:=by
    by_cases z:r.length=4
    ·exact z
    ·refine absurd ?_ h2
     have:¬ (V.int ((nats (3::r)).length:Nat)=V.int 5):=fun e=>z (by have:=V.int.inj e;rw[Zh,List.length_cons] at this;omega)
     simp only[this,decide_false,Bool.not_false]
   match r,hl4,hp,q1,q2 with
   | [a,b,c,d],_,hp,q1,q2=>
    have hent:Md33.entryOf [3,a,b,c,d]=some (.back (Md33.ofLow [a,b,c,d])):=rfl
    refine ⟨_,rfl,_,rfl,p,_,rfl,SqL.of hp.1,fun r1 n1=>?_⟩
    rw[show (some (1:Int))=some ((1:Nat):Int) from rfl,cut_from]
    obtain ⟨s1,e1⟩:=Zp (o:=.lst (nats ([3,a,b,c,d].drop 1))) n1
    generalize upd H r1 (.lst (nats ([3,a,b,c,d].drop 1)))=G1 at *
    have X1:=X.same s1
    obtain ⟨dxh,oh⟩:=X1.hen.oh
    refine ⟨r1,[a,b,c,d],rfl,e1,?_⟩
    refine ⟨_,rfl,_,rfl,h,dxh,_,rfl,oh,rfl,M,h,en,ch,sd,_,_,rfl,X1.hen,hE,_,_,rfl,rfl,_,rfl,ite2 (fun h3=>?_) fun h3=>?_⟩
    ·refine q2 ?_ G1 s1
     rw[hent]
     show sts[Md33.ofLow [a,b,c,d]]?=none
     have:=of_decide_eq_true h3
     rw[List.length_map] at this hE
     exact List.getElem?_eq_none (by omega)
    ·have hlt:Md33.ofLow [a,b,c,d]<sts.length:=by
      refine Nat.lt_of_not_le fun z=>h3 (decide_eq_true ?_)
      rw[List.length_map] at hE ⊢
      omega
     obtain ⟨st,hst⟩:∃st,sts[Md33.ofLow [a,b,c,d]]?=some st:=⟨_,List.getElem?_eq_getElem hlt⟩
     obtain ⟨w1,w2,w3⟩:=hG.st st (List.mem_of_getElem? hst)
     refine ⟨_,rfl,h,dxh,_,rfl,oh,rfl,_,rfl,M,h,en,ch,sd,sts,_,_,st,rfl,rfl,X1,by omega,hst,w3,w2,fun sd' H2 nsd k2 X2=>?_⟩
     exact q1 (.back (Md33.ofLow [a,b,c,d])) st hent hst (sd'::M) sd' H2 (.inr (s1.free nsd)) (((Qr.of_same s1).trans k2).mono (mem2 (by simp) (by simp))) (fun y hy=>List.mem_cons_of_mem _ hy) (fun y hy=>(List.mem_cons.mp hy).elim (fun e=>.inr (by rw[e];exact s1.free nsd)) .inl) X2
theorem entryOf_other {x:Nat} (h1:x≠1) (h2:x≠2) (h3:x≠3) (r:List Nat):Md33.entryOf (x::r)=none:=by
 unfold Md33.entryOf
 split
 ·rename_i h;exact absurd (by injection h) h1
 ·rename_i h;exact absurd (by injection h) h2
 ·rename_i h;exact absurd (by injection h) h3
 ·rfl
theorem vi_ne {x y:Nat} (h:¬ decide (V.int (x:Nat)=V.int ((y:Nat):Int))=true):x≠y:=fun e=>h (decide_eq_true (by rw[e]))
theorem vi_eq {x y:Nat} (h:decide (V.int (x:Nat)=V.int ((y:Nat):Int))=true):x=y:=Int.ofNat.inj (V.int.inj (of_decide_eq_true h))
def sp_take_plain (t:Adr):Sp:=fun vs H Q _=>∃(M:List Addr) (h en ch sd p:Addr) (sts:List Md33.Stand) (l:List Nat),vs=[.ref h,.ref p]∧Hst t M H h en ch sd sts∧HG sts∧Off M H p (.lst (nats l))∧TakeP t M H h en ch sd sts l Q
theorem ok_take_plain (T:Txt K mg t):OkF P w K mg base 6 "take_plain" ["history","plain"] (sp_take_plain t):=by
 refine okF T.d_take_plain sc_take_plain (fun vs H Q E h=>?_) (fun f cdv A outer s H vs Q E hr h=>?_)
 ·obtain ⟨M,h,en,ch,sd,p,sts,l,rfl,X,hG,hp,q⟩:=h
  rfl
 ·obtain ⟨M,h,en,ch,sd,p,sts,l,rfl,X,hG,hp,q⟩:=h
  refine ⟨_,(Zb (Z4 (Zu Jq (Zs (Zq (K:=K) rfl) rfl T.n_len PySem.boot_len (Za (pv 1) Zd)) Zf (Qv _)) (Ze (Zj Jz)) Zr)
   (Zb (Z4 (Zu Jq (Zx (Zl (K:=K) rfl) (pv 1) Zf (fun _ _=>rfl)) (pgi rfl T.c_PUT_layout) (Qv _)) (Ze (Zj (pf (ok_take_put T) hr (Za (pv 0) (Za (pv 1) Zd))))) Zr)
   (Zb (Z4 (Zu Jq (Zx (Zl (K:=K) rfl) (pv 1) Zf (fun _ _=>rfl)) (pgi rfl T.c_DROP_layout) (Qv _)) (Ze (Zj (pf (ok_take_drop T) hr (Za (pv 0) (Za (pv 1) Zd))))) Zr)
   (Zb (Z4 (Zu Jq (Zx (Zl (K:=K) rfl) (pv 1) Zf (fun _ _=>rfl)) (pgi rfl T.c_BACK_layout) (Qv _)) (Ze (Zj (pf (ok_take_back T) hr (Za (pv 0) (Za (pv 1) Zd))))) Zr)
   (Ze (Zj Jz)))))),?_⟩
  match l,hp,q with
  | [],hp,q=>
   refine ⟨_,rfl,p,_,rfl,.inl (SqL.of hp.1),rfl,_,rfl,iteT ?_⟩
   exact q.2 rfl H (Same.refl _)
  | x::r,hp,q=>
   have h0:¬ decide (V.int ((nats (x::r)).length:Nat)=V.int 0)=true:=fun z=>by
    have:=V.int.inj (of_decide_eq_true z)
    rw[Zh,List.length_cons] at this
    omega
   refine ⟨_,rfl,p,_,rfl,.inl (SqL.of hp.1),rfl,_,rfl,ite2 (fun z=>absurd z h0) fun _=>?_⟩
   have hx:(x::r).getD 0 0=x:=rfl
   refine ⟨_,rfl,p,_,_,_,rfl,rfl,SqL.of hp.1,at_n (j:=0) (by simp) rfl,rfl,_,rfl,ite2 (fun h1=>?_) fun h1=>?_⟩
   ·have e:x=1:=vi_eq (y:=1) h1
    subst e
    exact ⟨_,rfl,_,rfl,M,h,en,ch,sd,p,sts,r,rfl,X,hG,hp,q⟩
   refine ⟨_,rfl,p,_,_,_,rfl,rfl,SqL.of hp.1,at_n (j:=0) (by simp) rfl,rfl,_,rfl,ite2 (fun h2=>?_) fun h2=>?_⟩
   ·have e:x=2:=vi_eq (y:=2) h2
    subst e
    exact ⟨_,rfl,_,rfl,M,h,en,ch,sd,p,sts,r,rfl,X,hG,hp,q⟩
   refine ⟨_,rfl,p,_,_,_,rfl,rfl,SqL.of hp.1,at_n (j:=0) (by simp) rfl,rfl,_,rfl,ite2 (fun h3=>?_) fun h3=>?_⟩
   ·have e:x=3:=vi_eq (y:=3) h3
    subst e
    exact ⟨_,rfl,_,rfl,M,h,en,ch,sd,p,sts,r,rfl,X,hG,hp,q⟩
   refine q.2 ?_ H (Same.refl _)
   rw[entryOf_other (x:=x) (vi_ne (x:=x) (y:=1) h1) (vi_ne (x:=x) (y:=2) h2) (vi_ne (x:=x) (y:=3) h3)];rfl
theorem nextOf_mid {b:Md33.Book} {r:List Nat} (h0:8≤r.length) (h1:Md33.ofLow (r.take 4)≤65603) (h2:Qu (Md33.ofLow (r.take 4))≤r.length)
  (h3:(r.drop (8+16*Md33.blocks (Md33.ofLow (r.take 4)))).take 20=Md33.sum (b.last++r.take (8+16*Md33.blocks (Md33.ofLow (r.take 4))))):
  Md33.nextOf b r=if Md33.ofLow ((r.drop 4).take 4)≠b.count+1∨((Md33.openText b.key b.last ((r.take (8+16*Md33.blocks (Md33.ofLow (r.take 4)))).drop 8)).drop (Md33.ofLow (r.take 4))).any (fun (x:Nat)=>x != 0)=true then .error 3 else
   match (Md33.entryOf ((Md33.openText b.key b.last ((r.take (8+16*Md33.blocks (Md33.ofLow (r.take 4)))).drop 8)).take (Md33.ofLow (r.take 4)))).bind (Md33.added b) with
   | none=>.error 3
   | some c=>.ok (c,8+16*Md33.blocks (Md33.ofLow (r.take 4))+20):=by
 have hne:r.isEmpty=false:=by
  cases r with
  | nil=>simp at h0
  | cons x r=>rfl
 have e1:Qu (Md33.ofLow (r.take 4))=8+16*Md33.blocks (Md33.ofLow (r.take 4))+20:=by unfold Qu;omega
 have hP:¬ Md33.PLAIN<Md33.ofLow (r.take 4):=by
  have:Md33.PLAIN=65603:=rfl
  omega
 unfold Md33.nextOf
 rw[if_neg (by rw[hne];exact Bool.false_ne_true),if_neg (by omega)]
 dsimp only
 rw[if_neg hP,if_neg (by omega),if_neg (fun z=>z h3)]
 rfl
theorem any_nats (l:List Nat):((l.map fun (n:Nat)=>(n:Int)).any fun z=>z != 0)=l.any fun x=>x != 0:=by
 rw[List.any_map]
 congr 1
 funext n
 show (((n:Nat):Int) != 0)=(n != 0)
 by_cases h:n=0
 ·subst h;rfl
 ·have:((n:Nat):Int)≠0:=by omega
  rw[bne_iff_ne.mpr h,bne_iff_ne.mpr this]
theorem bind_added {b:Md33.Book} (hn:b.stands≠[]) (o:Option Md33.Entry):o.bind (Md33.added b)=none↔o.bind (afterS b.stands)=none:=by
 cases o with
 | none=>exact ⟨fun _=>rfl,fun _=>rfl⟩
 | some e=>
  show Md33.added b e=none↔afterS b.stands e=none
  rw[← after_eq b hn]
  unfold Md33.added
  cases Md33.after b e with
  | none=>exact ⟨fun _=>rfl,fun _=>rfl⟩
  | some s=>exact ⟨fun z=>(by cases z),fun z=>(by cases z)⟩
def sp_take_entry (t:Adr):Sp:=fun vs H Q _=>∃(M:List Addr) (a:VA) (en:Addr) (b:Md33.Book) (E r:List Nat) (z:Int) (l:Nat),vs=[.ref a.v,.ref en,.int z]∧z=(l:Int)∧Vol t M H a b∧Off M H en (.lst (nats E))∧l=Md33.ofLow (r.take 4)∧(∀x∈r,x<256)∧8≤r.length∧l≤65603∧Qu l≤r.length∧E=r.take (8+16*Md33.blocks l+20)∧(r.drop (8+16*Md33.blocks l)).take 20=Md33.sum (b.last++r.take (8+16*Md33.blocks l))∧b.bytes.length+r.length≤1048576 ∧
 (∀c m,Md33.nextOf b r=.ok (c,m)→VPost t M H a c (Q (.bl true)))∧(Md33.nextOf b r=.error 3→∀H',Same H H'→Q (.bl false) H')
theorem ok_take_entry (T:Txt K mg t):OkF P w K mg base 7 "take_entry" ["volume","entry","plain_length"] (sp_take_entry t):=by
 refine okF T.d_take_entry sc_take_entry (fun vs H Q E h=>?_) (fun f cdv A outer s H vs Q E hr h=>?_)
 ·obtain ⟨M,a,en,b,E,r,_,l,rfl,rfl,X,hen,hl,hrb,h8,hlp,hel,hE,hsum,hbr,q1,q2⟩:=h
  rfl
 ·obtain ⟨M,a,en,b,E,r,_,l,rfl,rfl,X,hen,hl,hrb,h8,hlp,hel,hE,hsum,hbr,q1,q2⟩:=h
  refine ⟨_,(Zb (Z4 (Zu op_ne (pf (Js T) hr (Za (Z1 (Z0 (K:=K) rfl) (pv 1) (Zv Zf) (Zv (pgi rfl T.c_FRONT_BYTES))) Zd)) (Zm Z5 (pm0 (Zi (K:=K) rfl (pv 0) rfl) T.k_History (Z7 T) hr) Zf) (Qv _)) (Ze (Zj Jz)) Zr)
   (Zb (Zo (i:=3) sc_take_entry.nd rfl (Or.inl rfl) (Z1 (Z0 (K:=K) rfl) (pv 1) (Zv (pgi rfl T.c_FRONT_BYTES)) (Zv (pe_un un_neg (pgi rfl T.c_SUM_BYTES)))))
   (Zb (Z4 (Zu op_notN (Zi (K:=K) rfl (pv 0) rfl) pe_non (Qv _)) (Ze (Zo (i:=3) sc_take_entry.nd rfl (Or.inl rfl) (pf (ok_open_from T) hr (Za (Z1 (Z0 (K:=K) rfl) (pm0 (pv 0) T.k_Volume (Xc T) hr) Yt (Zv (pgi rfl T.c_BLOCK_BYTES_cipher))) (Za (pv 3) (Za (Zi (K:=K) rfl (pv 0) rfl) Zd)))))) Zr)
   (Zb (Z4 (Ji (Zs (call_any (K:=K) rfl rfl) rfl T.n_any PyProof.Rows.boot_any (Za (Z1 (Z0 (K:=K) rfl) (pv 3) (Zv (pv 2)) Yt) Zd))) (Ze (Zj Jz)) Zr)
   (Zb (Z4 (Xa (Ji (pf (ok_take_plain T) hr (Za (Zi (K:=K) rfl (pv 0) rfl) (Za (Z1 (Z0 (K:=K) rfl) (pv 3) Yt (Zv (pv 2))) Zd))))) (Ze (Zj Jz)) Zr)
   (Zb (Z6 (pm (pv 0) T.k_Volume (Qo T) hr (Za (pv 1) Zd)))
   (Ze (Zj Jz)))))))),?_⟩
  obtain ⟨es,L,X0,g⟩:=X.ex
  have hX:=X.len
  obtain ⟨f1,f2,f3⟩:=g.few hX
  obtain ⟨dx,sv,ov,os⟩:=X0.ov
  obtain ⟨dxh,oh⟩:=X0.hst.hen.oh
  have hmid:=nextOf_mid (b:=b) h8 (by rw[← hl];exact hlp) (by rw[← hl];exact hel) (by rw[← hl];exact hsum)
  rw[← hl] at hmid
  have hlen:E.length=8+16*Md33.blocks l+20:=by
   rw[hE,List.length_take]
   unfold Qu at hel
   omega
  have hcnt:0<b.stands.length:=List.length_pos_iff.mpr g.good.ne
  refine ⟨_,rfl,_,rfl,_,rfl,en,_,rfl,SqL.of hen.1,fun p1 n1=>?_⟩
  rw[show (some (4:Int))=some ((4:Nat):Int) from rfl,show (some (8:Int))=some ((8:Nat):Int) from rfl,cut_nn]
  have e44:(E.drop 4).take (8-4)=(r.drop 4).take 4:=by
   rw[hE,List.drop_take,List.take_take,Nat.min_eq_left (by omega)]
  rw[e44]
  obtain ⟨s1,e1⟩:=Zp (o:=.lst (nats ((r.drop 4).take 4))) n1
  generalize upd H p1 (.lst (nats ((r.drop 4).take 4)))=G1 at *
  refine ⟨p1,_,rfl,e1,_,rfl,_,_,_,_,_,rfl,(s1 _ _ ov),T.k_Volume,T.na_Volume_history,rfl,a.h,dxh,_,rfl,s1 _ _ oh,rfl,M,a.h,a.en,a.ch,a.sd,_,_,rfl,(X0.hst.same s1).hen,by rw[List.length_map];exact hcnt,_,_,rfl,rfl,rfl,_,rfl,ite2 (fun h1=>?_) fun h1=>?_⟩
  ·have hne:Md33.ofLow ((r.drop 4).take 4)≠b.count+1:=fun e=>by
    rw[List.length_map,e] at h1
    have:V.int ((b.count+1:Nat):Int)=V.int (((b.stands.length-1:Nat):Int)+1):=by congr 1
    rw[decide_eq_true this] at h1
    exact absurd h1 (by decide)
   refine q2 ?_ G1 s1
   rw[hmid,if_pos (.inl hne)]
  have hnum:Md33.ofLow ((r.drop 4).take 4)=b.count+1:=by
   by_cases z:Md33.ofLow ((r.drop 4).take 4)=b.count+1
   ·exact z
   ·refine absurd ?_ h1
    rw[List.length_map]
    have:¬ (V.int ((Md33.ofLow ((r.drop 4).take 4):Nat):Int)=V.int (((b.stands.length-1:Nat):Int)+1)):=fun e=>z (by have:=V.int.inj e;omega)
    rw[decide_eq_false this];rfl
  refine ⟨_,rfl,_,rfl,_,rfl,_,rfl,en,_,rfl,SqL.of (s1 _ _ hen.1),fun p2 n2=>?_⟩
  rw[show (some (8:Int))=some ((8:Nat):Int) from rfl,show (some (-(20:Int)))=some (-((20:Nat):Int)) from rfl,cut_mid (by decide)]
  have e8:(E.take (E.length-20)).drop 8=(r.take (8+16*Md33.blocks l)).drop 8:=by
   rw[hlen,hE,List.take_take,Nat.min_eq_left (by omega),Nat.add_sub_cancel]
  rw[e8]
  obtain ⟨s2,e2⟩:=Zp (o:=.lst (nats ((r.take (8+16*Md33.blocks l)).drop 8))) n2
  generalize upd G1 p2 (.lst (nats ((r.take (8+16*Md33.blocks l)).drop 8)))=G2 at *
  have htl:((r.take (8+16*Md33.blocks l)).drop 8).length=16*Md33.blocks l:=by
   rw[List.length_drop,List.length_take]
   unfold Qu at hel
   omega
  have htb:∀x∈(r.take (8+16*Md33.blocks l)).drop 8,x<256:=fun x hx=>hrb x (List.mem_of_mem_take (List.mem_of_mem_drop hx))
  have S2:=s1.trans s2
  cases hk0:b.key with
  | none=>
   have esv:sv=.non:=by rw[hk0] at os;exact os
   subst esv
   refine ⟨_,rfl,_,_,_,_,_,rfl,(S2 _ _ ov),T.k_Volume,T.na_Volume_schedule,rfl,rfl,_,rfl,ite2 (fun h=>absurd h (by decide)) fun h=>?_⟩
   have etx:Md33.openText b.key b.last ((r.take (8+16*Md33.blocks l)).drop 8)=(r.take (8+16*Md33.blocks l)).drop 8:=by rw[hk0];rfl
   rw[etx] at hmid
   generalize (r.take (8+16*Md33.blocks l)).drop 8=tx at *
   have s4:=S2
   have et:=e2
   refine ⟨_,rfl,_,rfl,_,rfl,p2,_,rfl,SqL.of et,fun p5 n5=>?_⟩
   rw[cut_from]
   obtain ⟨s5,e5⟩:=Zp (o:=.lst (nats (tx.drop l))) n5
   generalize upd G2 p5 (.lst (nats (tx.drop l)))=G5 at *
   refine ⟨p5,(tx.drop l).map fun (n:Nat)=>(n:Int),rfl,SqL.of (by rw[List.map_map];exact e5),?_⟩
   rw[any_nats]
   refine ⟨_,rfl,ite2 (fun h5=>?_) fun h5=>?_⟩
   ·refine q2 ?_ G5 (s4.trans s5)
    rw[hmid,if_pos (.inr h5)]
   have hany:¬ (Md33.ofLow ((r.drop 4).take 4)≠b.count+1∨(tx.drop l).any (fun (x:Nat)=>x != 0)=true):=fun z=>z.elim (fun z=>z hnum) h5
   rw[if_neg hany] at hmid
   have X5:=(X0.same s4).same s5
   obtain ⟨dx5,sv5,ov5,os5⟩:=X5.ov
   obtain ⟨dxh5,oh5⟩:=X5.hst.hen.oh
   refine ⟨_,rfl,_,_,_,_,_,rfl,ov5,T.k_Volume,T.na_Volume_history,rfl,_,rfl,_,rfl,_,rfl,p2,_,rfl,SqL.of (s5 _ _ et),fun p6 n6=>?_⟩
   rw[cut_to]
   obtain ⟨s6,e6⟩:=Zp (o:=.lst (nats (tx.take l))) n6
   generalize upd G5 p6 (.lst (nats (tx.take l)))=G6 at *
   have X6:=X5.same s6
   have S6:=(s4.trans s5).trans s6
   refine ⟨M,a.h,a.en,a.ch,a.sd,p6,b.stands,tx.take l,rfl,X6.hst,g.hg hX,⟨e6,Z8 X5.hst.hen.pres n6⟩,fun e st he hst M' sd' H7 hsd' k7 hMM hM7 X7=>?_,fun hno H7 s7=>?_⟩
   rotate_left
   ·refine ⟨_,rfl,iteT ?_⟩
    refine q2 ?_ H7 (S6.trans s7)
    rw[(bind_added g.good.ne _).mpr hno] at hmid
    exact hmid
   refine ⟨_,rfl,iteF ?_⟩
   have hadd:Md33.added b e=some { b with bytes:=b.bytes++Md33.written b.key b.last (b.count+1) e,stands:=b.stands++[st] }:=by
    unfold Md33.added
    rw[after_eq b g.good.ne,hst];rfl
   have hbind:(Md33.entryOf (tx.take l)).bind (Md33.added b)=some { b with bytes:=b.bytes++Md33.written b.key b.last (b.count+1) e,stands:=b.stands++[st] }:=by
    rw[he];exact hadd
   rw[hbind] at hmid
   obtain ⟨e',hf',ha',hm',hme,hwr⟩:=nextOf_ok g.good hrb hmid
   have hbytes:({ b with bytes:=b.bytes++Md33.written b.key b.last (b.count+1) e,stands:=b.stands++[st] }:Md33.Book).bytes=b.bytes++E:=by
    rw[(added_bytes ha').1,hwr,hE]
   have V7:=X6.hist (sd':=sd') k7 (mem4 (.inl rfl) (.inr (.inl rfl)) (.inr (.inr (.inl rfl))) (.inr (.inr (.inr rfl)))) hMM hM7 X7
   have hF7:∀y∈[a.h,a.en,a.ch,a.sd],y∈M:=mem4 X0.hst.hen.mh X0.hst.hen.me X0.hst.hen.mc X0.hst.hen.ms
   have hen7:Off M' H7 en (.lst (nats E)):=(hen.same S6).keep k7 hF7 hM7
   obtain ⟨dx7,sv7,ov7,os7⟩:=V7.ov
   have hLl:L.length≤1000000:=by rw[g.runs.len,g.cnt];omega
   refine ⟨_,rfl,a.v,dx7,_,rfl,ov7,rfl,_,rfl,M',{ a with sd:=sd' },en,b.key,b.bytes,L,E,b.stands++[st],rfl,V7,hen7.1,fun z=>hen7.2 (by rw[z];exact V7.mco),by omega,hLl,fun H8 k8 X8=>?_⟩
   have g8:=gb_added g hf' ha'
   refine q1 _ _ hmid { a with sd:=sd' } M' H8 rfl ((Qr.of_same S6).trans ((k7.mono (mem4 (by simp[foot]) (by simp[foot]) (by simp[foot]) (by simp[foot]))).trans (k8.mono (mem2 (by simp[foot]) (by simp[foot]))))) hMM (fun y hy=>(hM7 y hy).imp id fun z=>S6.free z) ?_ ⟨⟨_,_,?_,g8⟩,?_⟩
   ·rcases hsd' with z|z
    ·rw[z];exact fun y hy=>.inl hy
    ·exact foot_sd (S6.free z)
   ·rw[hbytes]
    exact X8
   ·rw[hbytes,List.length_append];omega
  | some k=>
   have os':=os
   rw[hk0] at os'
   obtain ⟨sc,rfl,hR,hk⟩:=os'
   refine ⟨_,rfl,_,_,_,_,_,rfl,(S2 _ _ ov),T.k_Volume,T.na_Volume_schedule,rfl,rfl,_,rfl,ite2 (fun h=>?_) fun h=>absurd rfl h⟩
   have X2:=X0.same S2
   refine ⟨_,rfl,a.v,dx,_,rfl,S2 _ _ ov,rfl,M,a,b.key,b.bytes,L,b.stands,rfl,X2,fun p3 H3 s3 n3 e3=>?_⟩
   refine ⟨_,rfl,p3,_,rfl,SqL.of e3,fun p4 n4=>?_⟩
   rw[show (some (16:Int))=some ((16:Nat):Int) from rfl,cut_to]
   obtain ⟨s5',e5'⟩:=Zp (o:=.lst (nats ((last20 b.bytes).take 16))) n4
   generalize upd H3 p4 (.lst (nats ((last20 b.bytes).take 16)))=G4 at *
   have S4:=(S2.trans s3).trans s5'
   have hl20:(last20 b.bytes).length=20:=by unfold last20;rw[List.length_drop];have:=g.good.len;omega
   have hb20:∀x∈last20 b.bytes,x<256:=fun x hx=>g.good.byt x (List.mem_of_mem_drop hx)
   refine ⟨_,rfl,_,rfl,_,_,_,_,_,rfl,(S4 _ _ ov),T.k_Volume,T.na_Volume_schedule,rfl,p4,p2,sc,_,_,k,Md33.blocks l,rfl,e5',s5' _ _ (s3 _ _ e2),hR.rows.same S4,key16 hb20 (by omega),hk,htl,by unfold Md33.blocks;omega,htb,fun p6 H6 s6 n6 e6=>?_⟩
   have etx:Md33.openText b.key b.last ((r.take (8+16*Md33.blocks l)).drop 8)=Md33.openFrom (Md33.wordsOf k) (Md33.blocks l) ((last20 b.bytes).take 16) ((r.take (8+16*Md33.blocks l)).drop 8):=by
    rw[hk0]
    show Md33.openFrom (Md33.wordsOf k) (((r.take (8+16*Md33.blocks l)).drop 8).length/16) (b.last.take 16) _=_
    rw[htl,Nat.mul_div_cancel_left _ (by decide)]
    rfl
   rw[← etx] at e6
   generalize Md33.openText b.key b.last ((r.take (8+16*Md33.blocks l)).drop 8)=tx at *
   have s4:=S4.trans s6
   have et:=e6
   refine ⟨_,rfl,_,rfl,_,rfl,p6,_,rfl,SqL.of et,fun p5 n5=>?_⟩
   rw[cut_from]
   obtain ⟨s5,e5⟩:=Zp (o:=.lst (nats (tx.drop l))) n5
   generalize upd H6 p5 (.lst (nats (tx.drop l)))=G5 at *
   refine ⟨p5,(tx.drop l).map fun (n:Nat)=>(n:Int),rfl,SqL.of (by rw[List.map_map];exact e5),?_⟩
   rw[any_nats]
   refine ⟨_,rfl,ite2 (fun h5=>?_) fun h5=>?_⟩
   ·refine q2 ?_ G5 (s4.trans s5)
    rw[hmid,if_pos (.inr h5)]
   have hany:¬ (Md33.ofLow ((r.drop 4).take 4)≠b.count+1∨(tx.drop l).any (fun (x:Nat)=>x != 0)=true):=fun z=>z.elim (fun z=>z hnum) h5
   rw[if_neg hany] at hmid
   have X5:=(X0.same s4).same s5
   obtain ⟨dx5,sv5,ov5,os5⟩:=X5.ov
   obtain ⟨dxh5,oh5⟩:=X5.hst.hen.oh
   refine ⟨_,rfl,_,_,_,_,_,rfl,ov5,T.k_Volume,T.na_Volume_history,rfl,_,rfl,_,rfl,_,rfl,p6,_,rfl,SqL.of (s5 _ _ et),fun p6 n6=>?_⟩
   rw[cut_to]
   obtain ⟨s6,e6⟩:=Zp (o:=.lst (nats (tx.take l))) n6
   generalize upd G5 p6 (.lst (nats (tx.take l)))=G6 at *
   have X6:=X5.same s6
   have S6:=(s4.trans s5).trans s6
   refine ⟨M,a.h,a.en,a.ch,a.sd,p6,b.stands,tx.take l,rfl,X6.hst,g.hg hX,⟨e6,Z8 X5.hst.hen.pres n6⟩,fun e st he hst M' sd' H7 hsd' k7 hMM hM7 X7=>?_,fun hno H7 s7=>?_⟩
   rotate_left
   ·refine ⟨_,rfl,iteT ?_⟩
    refine q2 ?_ H7 (S6.trans s7)
    rw[(bind_added g.good.ne _).mpr hno] at hmid
    exact hmid
   refine ⟨_,rfl,iteF ?_⟩
   have hadd:Md33.added b e=some { b with bytes:=b.bytes++Md33.written b.key b.last (b.count+1) e,stands:=b.stands++[st] }:=by
    unfold Md33.added
    rw[after_eq b g.good.ne,hst];rfl
   have hbind:(Md33.entryOf (tx.take l)).bind (Md33.added b)=some { b with bytes:=b.bytes++Md33.written b.key b.last (b.count+1) e,stands:=b.stands++[st] }:=by
    rw[he];exact hadd
   rw[hbind] at hmid
   obtain ⟨e',hf',ha',hm',hme,hwr⟩:=nextOf_ok g.good hrb hmid
   have hbytes:({ b with bytes:=b.bytes++Md33.written b.key b.last (b.count+1) e,stands:=b.stands++[st] }:Md33.Book).bytes=b.bytes++E:=by
    rw[(added_bytes ha').1,hwr,hE]
   have V7:=X6.hist (sd':=sd') k7 (mem4 (.inl rfl) (.inr (.inl rfl)) (.inr (.inr (.inl rfl))) (.inr (.inr (.inr rfl)))) hMM hM7 X7
   have hF7:∀y∈[a.h,a.en,a.ch,a.sd],y∈M:=mem4 X0.hst.hen.mh X0.hst.hen.me X0.hst.hen.mc X0.hst.hen.ms
   have hen7:Off M' H7 en (.lst (nats E)):=(hen.same S6).keep k7 hF7 hM7
   obtain ⟨dx7,sv7,ov7,os7⟩:=V7.ov
   have hLl:L.length≤1000000:=by rw[g.runs.len,g.cnt];omega
   refine ⟨_,rfl,a.v,dx7,_,rfl,ov7,rfl,_,rfl,M',{ a with sd:=sd' },en,b.key,b.bytes,L,E,b.stands++[st],rfl,V7,hen7.1,fun z=>hen7.2 (by rw[z];exact V7.mco),by omega,hLl,fun H8 k8 X8=>?_⟩
   have g8:=gb_added g hf' ha'
   refine q1 _ _ hmid { a with sd:=sd' } M' H8 rfl ((Qr.of_same S6).trans ((k7.mono (mem4 (by simp[foot]) (by simp[foot]) (by simp[foot]) (by simp[foot]))).trans (k8.mono (mem2 (by simp[foot]) (by simp[foot]))))) hMM (fun y hy=>(hM7 y hy).imp id fun z=>S6.free z) ?_ ⟨⟨_,_,?_,g8⟩,?_⟩
   ·rcases hsd' with z|z
    ·rw[z];exact fun y hy=>.inl hy
    ·exact foot_sd (S6.free z)
   ·rw[hbytes]
    exact X8
   ·rw[hbytes,List.length_append];omega
end
theorem takes_err {k:Nat} {b:Md33.Book} {r:List Nat} {why:Nat} (h:Md33.nextOf b r=.error why):Md33.takes (k+1) b r=(b,why):=by
 show (match Md33.nextOf b r with|.error why=>(b,why)|.ok (c,n)=>Md33.takes k c (r.drop n))=_
 rw[h]
theorem takes_ok {k:Nat} {b c:Md33.Book} {r:List Nat} {m:Nat} (h:Md33.nextOf b r=.ok (c,m)):Md33.takes (k+1) b r=Md33.takes k c (r.drop m):=by
 show (match Md33.nextOf b r with|.error why=>(b,why)|.ok (c,n)=>Md33.takes k c (r.drop n))=_
 rw[h]
theorem Qr.comp {M M':List Addr} {H H' H'':Hp} (k:Qr M H H') (k':Qr M' H' H'') (hM:∀y∈M',y∈M∨H y=none):Qr M H H'':=fun p o hp ho=>by
 refine k' p o (fun z=>?_) (k p o hp ho)
 rcases hM p z with z|z
 ·exact hp z
 ·rw[ho] at z;cases z
theorem newM_comp {M M' M'':List Addr} {H H':Hp} (k:Qr M H H') (hM:∀y∈M',y∈M∨H y=none) (hM':∀y∈M'',y∈M'∨H' y=none):∀y∈M'',y∈M∨H y=none:=fun y hy=>by
 rcases hM' y hy with z|z
 ·exact hM y z
 ·by_cases hm:y∈M
  ·exact .inl hm
  ·refine .inr ?_
   cases q:H y with
   | none=>rfl
   | some o=>rw[k y o hm q] at z;cases z
theorem fresh_or' {M:List Addr} {H G:Hp} {r:Addr} (k:Qr M H G) (n:G r=none):H r=none∨r∈M:=by
 by_cases h:r∈M
 ·exact .inr h
 ·refine .inl ?_
  cases q:H r with
  | none=>rfl
  | some o=>rw[k r o h q] at n;cases n
theorem Vol.same {t:Adr} {M:List Addr} {H H':Hp} {a:VA} {b:Md33.Book} (x:Vol t M H a b) (s:Same H H'):Vol t M H' a b:=by
 obtain ⟨es,L,A,B⟩:=x.ex
 exact ⟨⟨es,L,A.same s,B⟩,x.len⟩
section
variable {P:Program} {w:World} {K:PySem.W.Frag} {mg:Str→Option Value} {base:Heap} {t:Adr}
def sp_take_entries (t:Adr):Sp:=fun vs H Q _=>∃(M:List Addr) (a:VA) (d:Addr) (b:Md33.Book) (data:List Nat) (k:Nat) (c:Md33.Book) (why:Nat),vs=[.ref a.v,.ref d]∧Vol t M H a b∧Off M H d (.lst (nats data))∧(∀x∈data,x<256)∧data.length≤1048576∧b.bytes.length≤data.length∧data.length-b.bytes.length<k∧Md33.takes k b (data.drop b.bytes.length)=(c,why)∧VPost t M H a c (Q (nV why))
theorem ok_take_entries (T:Txt K mg t):OkF P w K mg base 8 "take_entries" ["volume","data"] (sp_take_entries t):=by
 refine okF T.d_take_entries Xd (fun vs H Q E h=>?_) (fun f cdv A outer s H vs Q E hr h=>?_)
 ·obtain ⟨M,a,d,b,data,k,c,why,rfl,X,hd,hdb,hdl,hbd,hk,htk,q⟩:=h
  rfl
 ·obtain ⟨M,a,d,b,data,k,c,why,rfl,X,hd,hdb,hdl,hbd,hk,htk,q⟩:=h
  refine ⟨_,(Zb (ps_while PassesOwn.never (Zu op_lt (Zs (Zq (K:=K) rfl) rfl T.n_len PySem.boot_len (Za (Zi (K:=K) rfl (pv 0) rfl) Zd)) (Zs (Zq (K:=K) rfl) rfl T.n_len PySem.boot_len (Za (pv 1) Zd)) (Qv _)) (Zb (Zo (i:=2) Xd.nd rfl (Or.inl rfl) (Zs (Zq (K:=K) rfl) rfl T.n_len PySem.boot_len (Za (Zi (K:=K) rfl (pv 0) rfl) Zd)))
   (Zb (Z4 (Zu op_gt (Zm Z5 (pv 2) (pgi rfl T.c_FRONT_BYTES)) (Zs (Zq (K:=K) rfl) rfl T.n_len PySem.boot_len (Za (pv 1) Zd)) (Qv _)) (Ze (Zj (pgi rfl T.c_TOO_FEW_BYTES))) Zr)
   (Zb (Zo (i:=3) Xd.nd rfl (Or.inl rfl) (pf (Js T) hr (Za (Z1 (Z0 (K:=K) rfl) (pv 1) (Zv (pv 2)) (Zv (Zm Z5 (pv 2) Zf))) Zd)))
   (Zb (Z4 (Zu op_gt (pv 3) (pgi rfl T.c_MOST_PLAIN_BYTES) (Qv _)) (Ze (Zj (pgi rfl T.c_NOT_AS_TOLD))) Zr)
   (Zb (Zo (i:=4) Xd.nd rfl (Or.inl rfl) (Zm Z5 (pv 2) (pf (ok_entry_length T) hr (Za (pv 3) Zd))))
   (Zb (Z4 (Zu op_gt (pv 4) (Zs (Zq (K:=K) rfl) rfl T.n_len PySem.boot_len (Za (pv 1) Zd)) (Qv _)) (Ze (Zj (pgi rfl T.c_TOO_FEW_BYTES))) Zr)
   (Zb (Zo (i:=5) Xd.nd rfl (Or.inl rfl) (Z1 (Z0 (K:=K) rfl) (pv 1) (Zv (pv 2)) (Zv (pv 4))))
   (Zb (Z4 (Zu (op_neDK (K:=K) rfl (hv_of hr)) (pf (ok_sum_of T) hr (Za (Zm Yl (pm0 (pv 0) T.k_Volume (Xc T) hr) (Z1 (Z0 (K:=K) rfl) (pv 5) Yt (Zv (pe_un un_neg (pgi rfl T.c_SUM_BYTES))))) Zd)) (Z1 (Z0 (K:=K) rfl) (pv 5) (Zv (pe_un un_neg (pgi rfl T.c_SUM_BYTES))) Yt) (Qv _)) (Ze (Zj (pgi rfl T.c_WRONG_SUM))) Zr)
   (Ze (Z4 (Xa (Ji (pf (ok_take_entry T) hr (Za (pv 0) (Za (pv 5) (Za (pv 3) Zd)))))) (Ze (Zj (pgi rfl T.c_NOT_AS_TOLD))) Zr)))))))))))
   (Ze (Zj (pgi rfl T.c_NO_MORE_BYTES)))),?_⟩
  refine ⟨fun m σ H2=>∃(fuel:Nat) (b':Md33.Book) (a':VA) (M':List Addr) (v2 v3 v4 v5:Option V),σ=[some (.ref a.v),some (.ref d),v2,v3,v4,v5]∧a'.v=a.v∧Qr (foot a) H H2∧(∀y∈M,y∈M')∧(∀y∈M',y∈M∨H y=none)∧(∀y∈foot a',y∈foot a∨H y=none)∧Vol t M' H2 a' b'∧Off M' H2 d (.lst (nats data))∧b'.bytes.length≤data.length∧m=data.length-b'.bytes.length∧m<fuel∧Md33.takes fuel b' (data.drop b'.bytes.length)=(c,why),
   ⟨_,k,b,a,M,none,none,none,none,rfl,rfl,Qr.refl _ _,fun y hy=>hy,fun y hy=>.inl hy,fun y hy=>.inl hy,X,hd,hbd,rfl,hk,htk⟩,?_⟩
  rintro m σ H2 ⟨fuel,b',a',M',v2,v3,v4,v5,rfl,hav,KH,hMs,hM',hfo,X',hd',hbd',rfl,hfu,htk'⟩
  obtain ⟨es0,L0,hX0,g0⟩:=X.ex
  obtain ⟨es,L,X0,g⟩:=X'.ex
  have hX:=X'.len
  obtain ⟨dx,sv,ov,os⟩:=X0.ov
  rw[hav] at ov
  obtain ⟨k',rfl⟩:∃k',fuel=k'+1:=⟨fuel-1,by omega⟩
  have hrl:(data.drop b'.bytes.length).length=data.length-b'.bytes.length:=List.length_drop
  have hrb:∀x∈data.drop b'.bytes.length,x<256:=fun x hx=>hdb x (List.mem_of_mem_drop hx)
  have fin:∀(why':Nat) (H3:Hp),Same H2 H3→Md33.nextOf b' (data.drop b'.bytes.length)=.error why'→Q (nV why') H3:=fun why' H3 s3 he=>by
   rw[takes_err he] at htk'
   have e1:b'=c:=congrArg Prod.fst htk'
   have e2:why'=why:=congrArg Prod.snd htk'
   rw[e2]
   rw[e1] at X'
   exact q a' M' H3 hav (KH.trans (.of_same s3)) hMs hM' hfo (X'.same s3)
  refine ⟨_,rfl,_,_,_,_,_,rfl,ov,T.k_Volume,T.na_Volume_content,rfl,a'.co,_,rfl,.inl (SqL.of X0.oc),_,rfl,d,_,rfl,.inl (SqL.of hd'.1),_,_,rfl,rfl,_,rfl,ite2 (fun h1=>⟨_,fun _ _ x=>x,?_⟩) fun h1=>?_⟩
  rotate_left
  ·refine fin 0 H2 (Same.refl _) ?_
   have hle:data.length≤b'.bytes.length:=by
    refine Nat.le_of_not_lt fun z=>h1 (decide_eq_true ?_)
    rw[Zh,Zh];omega
   rw[List.drop_of_length_le hle];rfl
  have hlt:b'.bytes.length<data.length:=by
   have:=of_decide_eq_true h1
   rw[Zh,Zh] at this
   omega
  have hne:(data.drop b'.bytes.length).isEmpty=false:=by
   cases hq:data.drop b'.bytes.length with
   | nil=>rw[hq] at hrl;simp at hrl;omega
   | cons x l=>rfl
  refine ⟨_,rfl,_,_,_,_,_,rfl,ov,T.k_Volume,T.na_Volume_content,rfl,a'.co,_,rfl,.inl (SqL.of X0.oc),?_⟩
  rw[Zh]
  refine ⟨_,rfl,_,_,rfl,rfl,_,rfl,d,_,rfl,.inl (SqL.of hd'.1),_,_,rfl,rfl,_,rfl,ite2 (fun h2=>?_) fun h2=>?_⟩
  ·refine fin 1 H2 (Same.refl _) ?_
   have h8:(data.drop b'.bytes.length).length<8:=by
    have:=of_decide_eq_true h2
    rw[Zh] at this
    omega
   unfold Md33.nextOf
   rw[if_neg (by rw[hne];exact Bool.false_ne_true),if_pos h8]
  have h8:8≤(data.drop b'.bytes.length).length:=by
   refine Nat.le_of_not_lt fun z=>h2 (decide_eq_true ?_)
   rw[Zh];omega
  refine ⟨_,rfl,_,rfl,_,rfl,_,rfl,_,_,rfl,rfl,_,rfl,d,_,rfl,SqL.of hd'.1,fun p1 n1=>?_⟩
  rw[show ((b'.bytes.length:Nat):Int)+4=((b'.bytes.length+4:Nat):Int) by omega,cut_nn,show b'.bytes.length+4-b'.bytes.length=4 by omega]
  obtain ⟨s1,e1⟩:=Zp (o:=.lst (nats ((data.drop b'.bytes.length).take 4))) n1
  generalize upd H2 p1 (.lst (nats ((data.drop b'.bytes.length).take 4)))=G1 at *
  refine ⟨p1,_,rfl,e1,?_⟩
  generalize hr:data.drop b'.bytes.length=r at *
  generalize hl:Md33.ofLow (r.take 4)=l at *
  refine ⟨_,rfl,_,_,rfl,rfl,_,rfl,ite2 (fun h3=>?_) fun h3=>?_⟩
  ·refine fin 3 G1 s1 ?_
   have hP:Md33.PLAIN<l:=by
    have:=of_decide_eq_true h3
    have h65:Md33.PLAIN=65603:=rfl
    omega
   unfold Md33.nextOf
   rw[if_neg (by rw[hne];exact Bool.false_ne_true),if_neg (by omega)]
   dsimp only
   rw[hl,if_pos hP]
  have hlp:l≤65603:=by
   refine Nat.le_of_not_lt fun z=>h3 (decide_eq_true ?_)
   omega
  have hP:¬ Md33.PLAIN<l:=by
   have h65:Md33.PLAIN=65603:=rfl
   omega
  have e20:Qu l=8+16*Md33.blocks l+20:=by unfold Qu;omega
  refine ⟨_,rfl,_,rfl,_,l,rfl,rfl,Nat.le_trans hlp (by decide),_,_,rfl,rfl,?_⟩
  refine ⟨_,rfl,_,rfl,d,_,rfl,.inl (SqL.of (s1 _ _ hd'.1)),_,_,rfl,rfl,_,rfl,ite2 (fun h4=>?_) fun h4=>?_⟩
  ·refine fin 1 G1 s1 ?_
   have h5:r.length<8+16*Md33.blocks l+20:=by
    have:=of_decide_eq_true h4
    rw[Zh] at this
    omega
   unfold Md33.nextOf
   rw[if_neg (by rw[hne];exact Bool.false_ne_true),if_neg (by omega)]
   dsimp only
   rw[hl,if_neg hP,if_pos h5]
  have hel:Qu l≤r.length:=by
   refine Nat.le_of_not_lt fun z=>h4 (decide_eq_true ?_)
   rw[Zh];omega
  refine ⟨_,rfl,_,rfl,_,rfl,_,rfl,_,rfl,d,_,rfl,SqL.of (s1 _ _ hd'.1),fun p2 n2=>?_⟩
  rw[show ((b'.bytes.length:Nat):Int)+((Qu l:Nat):Int)=((b'.bytes.length+Qu l:Nat):Int) by omega,cut_nn,show b'.bytes.length+Qu l-b'.bytes.length=8+16*Md33.blocks l+20 by omega,hr]
  obtain ⟨s2,e2⟩:=Zp (o:=.lst (nats (r.take (8+16*Md33.blocks l+20)))) n2
  have n2':H2 p2=none:=s1.free n2
  generalize upd G1 p2 (.lst (nats (r.take (8+16*Md33.blocks l+20))))=G2 at *
  have S2:=s1.trans s2
  have X2:=X0.same S2
  have hEl:(r.take (8+16*Md33.blocks l+20)).length=8+16*Md33.blocks l+20:=by rw[List.length_take];omega
  refine ⟨_,rfl,a'.v,dx,_,by rw[hav],by rw[hav];exact S2 _ _ ov,rfl,M',a',b'.key,b'.bytes,L,b'.stands,by rw[hav];rfl,X2,fun p3 H3 s3 n3 e3=>?_⟩
  refine ⟨_,rfl,_,rfl,_,rfl,p2,_,rfl,SqL.of (s3 _ _ e2),fun p4 n4=>?_⟩
  rw[show (some (-(20:Int)))=some (-((20:Nat):Int)) from rfl,cut_but (by decide),hEl,Nat.add_sub_cancel,List.take_take,Nat.min_eq_left (by omega)]
  obtain ⟨s4,e4⟩:=Zp (o:=.lst (nats (r.take (8+16*Md33.blocks l)))) n4
  generalize upd H3 p4 (.lst (nats (r.take (8+16*Md33.blocks l))))=G4 at *
  have hl20:(last20 b'.bytes).length=20:=by unfold last20;rw[List.length_drop];have:=g.good.len;omega
  refine rcat (s4 _ _ e3) e4 (by rw[Zh,Zh,hl20,List.length_take,Qt];omega) fun p5 n5=>?_
  rw[← Z2]
  obtain ⟨s5,e5⟩:=Zp (o:=.lst (nats (last20 b'.bytes++r.take (8+16*Md33.blocks l)))) n5
  generalize upd G4 p5 (.lst (nats (last20 b'.bytes++r.take (8+16*Md33.blocks l))))=G5 at *
  refine ⟨p5,_,rfl,e5,by rw[List.length_append,hl20,List.length_take];omega,fun x hx=>?_,fun p6 H6 s6 n6 e6=>?_⟩
  ·rcases List.mem_append.mp hx with hx|hx
   ·exact g.good.byt x (List.mem_of_mem_drop hx)
   ·exact hrb x (List.mem_of_mem_take hx)
  have S36:=((s3.trans s4).trans s5).trans s6
  refine ⟨_,rfl,_,rfl,_,rfl,p2,_,rfl,SqL.of (S36 _ _ e2),fun p7 n7=>?_⟩
  rw[show (some (-(20:Int)))=some (-((20:Nat):Int)) from rfl,cut_last (by decide),hEl,Nat.add_sub_cancel,List.drop_take,Nat.add_sub_cancel_left]
  obtain ⟨s7,e7⟩:=Zp (o:=.lst (nats ((r.drop (8+16*Md33.blocks l)).take 20))) n7
  generalize upd H6 p7 (.lst (nats ((r.drop (8+16*Md33.blocks l)).take 20)))=G7 at *
  refine rne (s7 _ _ e6) e7 ⟨_,rfl,ite2 (fun h6=>?_) fun h6=>?_⟩
  ·refine fin 2 G7 ((S2.trans S36).trans s7) ?_
   have h7:(r.drop (8+16*Md33.blocks l)).take 20≠Md33.sum (b'.last++r.take (8+16*Md33.blocks l)):=fun e=>by
    have:Md33.sum (last20 b'.bytes++r.take (8+16*Md33.blocks l))=(r.drop (8+16*Md33.blocks l)).take 20:=e.symm
    rw[decide_eq_true this] at h6
    exact absurd h6 (by decide)
   unfold Md33.nextOf
   rw[if_neg (by rw[hne];exact Bool.false_ne_true),if_neg (by omega)]
   dsimp only
   rw[hl,if_neg hP,if_neg (by omega),if_pos h7]
  have h7:(r.drop (8+16*Md33.blocks l)).take 20=Md33.sum (b'.last++r.take (8+16*Md33.blocks l)):=by
   by_cases z:Md33.sum (last20 b'.bytes++r.take (8+16*Md33.blocks l))=(r.drop (8+16*Md33.blocks l)).take 20
   ·exact z.symm
   ·refine absurd ?_ h6
    rw[decide_eq_false z];rfl
  have S7:=(S2.trans S36).trans s7
  have hpM:p2∉M':=Z8 X0.hst.hen.pres n2'
  refine ⟨_,rfl,_,rfl,_,rfl,M',a',p2,b',_,r,_,l,by rw[hav];rfl,rfl,X'.same S7,⟨s7 _ _ (S36 _ _ e2),hpM⟩,hl.symm,hrb,h8,hlp,hel,rfl,h7,by omega,fun c' m' hok a'' M'' H8 hav' k8 hMs8 hM8 hfo8 X8=>?_,fun hno H8 s8=>?_⟩
  ·refine ⟨_,rfl,iteF ?_⟩
   obtain ⟨e,hf',ha',hm',hme,hwr⟩:=nextOf_ok g.good hrb hok
   rw[takes_ok hok] at htk'
   have hcb:c'.bytes=b'.bytes++r.take m':=by rw[(added_bytes ha').1,hwr]
   have hcl:c'.bytes.length=b'.bytes.length+m':=by rw[hcb,List.length_append,List.length_take];omega
   have hm28:28≤m':=by rw[hme];unfold Qu;omega
   have edr:data.drop c'.bytes.length=r.drop m':=by rw[hcl,← List.drop_drop,hr]
   have K7:Qr (foot a) H G7:=KH.trans (.of_same S7)
   have hM7:∀y∈M'',y∈M'∨G7 y=none:=hM8
   refine ⟨data.length-c'.bytes.length,by omega,k',c',a'',M'',_,_,_,_,rfl,hav'.trans hav,K7.comp k8 hfo,fun y hy=>hMs8 y (hMs y hy),fun y hy=>(hM7 y hy).elim (hM' y) fun z=>?_,newM_comp K7 hfo hfo8,X8,?_,by omega,rfl,by omega,by rw[edr];exact htk'⟩
   ·exact (fresh_or' K7 z).elim .inr fun z=>.inl (Ju hX0 _ z)
   exact (hd'.same S7).keep k8 (Ju X0) hM7
  ·refine ⟨_,rfl,iteT ?_⟩
   exact fin 3 H8 (S7.trans s8) hno
end
abbrev zvs (l:List Int):List V:=l.map V.int
theorem sqL_keep {K:PySem.W.Frag} {F:List Addr} {H H':Hp} {a:Addr} {xs:List V} (h:SqL K H a xs) (k:Qr F H H') (hF:a∉F):SqL K H' a xs:=by
 rcases h with (h|⟨o,h⟩)|h
 ·exact .inl (.inl (k _ _ hF h))
 ·exact .inl (.inr ⟨o,k _ _ hF h⟩)
 ·exact .inr h
theorem sqL_ins {K:PySem.W.Frag} {H H':Hp} {a x C dx:Addr} {fs:List (Str×V)} {xs:List V} (h:SqL K H a xs) (k:Qr [x] H H') (hx:H x=some (.ins C dx fs)):SqL K H' a xs:=by
 rcases h with (h|⟨o,h⟩)|h
 ·exact .inl (.inl (k _ _ (fun z=>by rw[List.mem_singleton.mp z,hx] at h;cases h) h))
 ·exact .inl (.inr ⟨o,k _ _ (fun z=>by rw[List.mem_singleton.mp z,hx] at h;cases h) h⟩)
 ·exact .inr h
theorem sqL_pres {K:PySem.W.Frag} {F:List Addr} {H H':Hp} {a:Addr} {xs:List V} (h:SqL K H a xs) (k:Qr F H H') (hF:∀y∈F,H y=none∨∃C dx fs,H y=some (.ins C dx fs)):SqL K H' a xs:=by
 rcases h with (h|⟨o,h⟩)|h
 ·refine .inl (.inl (k _ _ (fun z=>?_) h))
  rcases hF _ z with e|⟨C,dx,fs,e⟩
  ·rw[h] at e;cases e
  ·rw[h] at e;cases e
 ·refine .inl (.inr ⟨o,k _ _ (fun z=>?_) h⟩)
  rcases hF _ z with e|⟨C,dx,fs,e⟩
  ·rw[h] at e;cases e
  ·rw[h] at e;cases e
 ·exact .inr h
theorem sqL_same {K:PySem.W.Frag} {H H':Hp} {a:Addr} {xs:List V} (h:SqL K H a xs) (s:Same H H'):SqL K H' a xs:=sqL_keep h (F:=[]) (.of_same s) (by simp)
theorem at_i {l:List Int} {z:Int} {j:Nat} (hj:j<l.length) (e:z=(j:Int)):atI (zvs l) z=some (V.int (l.getD j 0)):=by
 subst e
 refine atI_nat ?_
 rw[List.getElem?_map,List.getD_eq_getElem?_getD,List.getElem?_eq_getElem hj]
 rfl
theorem cut_i {l:List Int} {i j:Nat}:cutV (zvs l) (some (i:Int)) (some (j:Int))=zvs ((l.drop i).take (j-i)):=by
 unfold cutV
 rw[HT.sIx_nat,HT.sIx_nat,List.length_map,← List.map_drop,← List.map_take]
 congr 1
 by_cases h:i≤l.length
 ·rw[Nat.min_eq_left h]
  by_cases h2:j≤l.length
  ·rw[Nat.min_eq_left h2]
  ·rw[Nat.min_eq_right (by omega),List.take_of_length_le (by rw[List.length_drop];exact Nat.le_refl _),List.take_of_length_le (by rw[List.length_drop];omega)]
 ·have e:min i l.length=l.length:=by omega
  rw[e,List.drop_of_length_le (Nat.le_refl _),List.drop_of_length_le (by omega)]
  simp
def rdrF (src:Addr) (k:Nat):List (Str×V):=[("source",.ref src),("place",.int (k:Int))]
def RowI (M:List Addr) (H:Hp) (b:Addr) (xs:List (List Int)):Prop:=∃rs:List Addr,Off M H b (.lst (rs.map V.ref))∧Paired (fun r x=>Off M H r (.lst (zvs x))) rs xs
def callF (p:Int) (a b:Addr):List (Str×V):=[("number",.int p),("numbers",.ref a),("lists",.ref b)]
def CallO (t:Adr) (M:List Addr) (H:Hp) (c:Addr) (p:Int) (ns:List Int) (xs:List (List Int)):Prop:=∃dx a b,Off M H c (.ins t.C_Call dx (callF p a b))∧Off M H a (.lst (zvs ns))∧RowI M H b xs
theorem RowI.keep {M M' F:List Addr} {H H':Hp} {b:Addr} {xs:List (List Int)} (h:RowI M H b xs) (k:Qr F H H') (hF:∀x∈F,x∈M) (hM:∀x∈M',x∈M∨H x=none):RowI M' H' b xs:=by
 obtain ⟨rs,h1,h2⟩:=h
 exact ⟨rs,h1.keep k hF hM,Paired.mapP h2 fun r x d=>d.keep k hF hM⟩
theorem CallO.keep {t:Adr} {M M' F:List Addr} {H H':Hp} {c:Addr} {p:Int} {ns:List Int} {xs:List (List Int)} (h:CallO t M H c p ns xs) (k:Qr F H H') (hF:∀x∈F,x∈M) (hM:∀x∈M',x∈M∨H x=none):CallO t M' H' c p ns xs:=by
 obtain ⟨dx,a,b,h1,h2,h3⟩:=h
 exact ⟨dx,a,b,h1.keep k hF hM,h2.keep k hF hM,h3.keep k hF hM⟩
theorem drop_get {l:List Int} {k:Nat} {x:Int} {r:List Int} (h:l.drop k=x::r):k<l.length∧l.getD k 0=x∧l.drop (k+1)=r:=by
 have hk:k<l.length:=by
  refine Nat.lt_of_not_le fun z=>?_
  rw[List.drop_of_length_le z] at h;cases h
 rw[List.drop_eq_getElem_cons hk] at h
 injection h with h1 h2
 exact ⟨hk,by rw[List.getD_eq_getElem?_getD,List.getElem?_eq_getElem hk];exact h1,h2⟩
section
variable {P:Program} {w:World} {K:PySem.W.Frag} {mg:Str→Option Value} {base:Heap} {t:Adr}
def sp_Call_init (t:Adr):Sp:=fun vs H Q _=>∃(x dx:Addr) (a b c:V),vs=[.ref x,a,b,c]∧H x=some (.ins t.C_Call dx [])∧Q .non (upd H x (.ins t.C_Call dx [("number",a),("numbers",b),("lists",c)]))
theorem ok_Call_init (T:Txt K mg t):OkC P w K mg base 1 t.C_Call "Call" ["self","number","numbers","lists"] (sp_Call_init t):=by
 refine okC T.d_Call_init sc_Call_init (fun vs H Q E h=>?_) (fun f cdv A outer s H vs Q E hr h=>?_)
 ·obtain ⟨x,dx,a,b,c,rfl,hx,q⟩:=h
  rfl
 ·obtain ⟨x,dx,a,b,c,rfl,hx,q⟩:=h
  refine ⟨_,(Zb (Ye (K:=K) rfl (pv 0) (pv 1) rfl)
   (Zb (Ye (K:=K) rfl (pv 0) (pv 2) rfl)
   (Ze (Ye (K:=K) rfl (pv 0) (pv 3) rfl)))),?_⟩
  refine ⟨_,rfl,_,rfl,x,_,dx,_,rfl,hx,T.k_Call,T.na_Call_number,(show 0<1000 by decide),?_⟩
  refine ⟨_,rfl,_,rfl,x,_,dx,_,rfl,Zc,T.k_Call,T.na_Call_numbers,(show 1<1000 by decide),?_⟩
  rw[Jb]
  refine ⟨_,rfl,_,rfl,x,_,dx,_,rfl,Zc,T.k_Call,T.na_Call_lists,(show 2<1000 by decide),?_⟩
  rw[Jb]
  exact q
def sp_Reader_init (t:Adr):Sp:=fun vs H Q _=>∃(x dx src:Addr),vs=[.ref x,.ref src]∧H x=some (.ins t.C_Reader dx [])∧Q .non (upd H x (.ins t.C_Reader dx (rdrF src 0)))
theorem ok_Reader_init (T:Txt K mg t):OkC P w K mg base 1 t.C_Reader "Reader" ["self","source"] (sp_Reader_init t):=by
 refine okC T.d_Reader_init sc_Reader_init (fun vs H Q E h=>?_) (fun f cdv A outer s H vs Q E hr h=>?_)
 ·obtain ⟨x,dx,src,rfl,hx,q⟩:=h
  rfl
 ·obtain ⟨x,dx,src,rfl,hx,q⟩:=h
  refine ⟨_,(Zb (Ye (K:=K) rfl (pv 0) (pv 1) rfl)
   (Ze (Ye (K:=K) rfl (pv 0) Zf rfl))),?_⟩
  refine ⟨_,rfl,_,rfl,x,_,dx,_,rfl,hx,T.k_Reader,T.na_Reader_source,(show 0<1000 by decide),?_⟩
  refine ⟨_,rfl,x,_,dx,_,rfl,Zc,T.k_Reader,T.na_Reader_place,(show 1<1000 by decide),?_⟩
  rw[Jb]
  exact q
def sp_Reader_at_end (t:Adr) (K:PySem.W.Frag):Sp:=fun vs H Q _=>∃(rd dx src:Addr) (k:Nat) (l:List Int),vs=[.ref rd]∧H rd=some (.ins t.C_Reader dx (rdrF src k))∧SqL K H src (zvs l)∧Q (.bl (decide (l.length≤k))) H
theorem ok_Reader_at_end (T:Txt K mg t):OkM P w K mg base 1 t.C_Reader "at_end" ["self"] (sp_Reader_at_end t K):=by
 refine okM T.d_Reader_at_end sc_Reader_at_end (fun vs H Q E h=>?_) (fun f cdv A outer s H vs Q E hr h=>?_)
 ·obtain ⟨rd,dx,src,k,l,rfl,hd,hs,q⟩:=h
  rfl
 ·obtain ⟨rd,dx,src,k,l,rfl,hd,hs,q⟩:=h
  refine ⟨_,(Ze (Zj (pe_cmpR op_ge (Zi (K:=K) rfl (pv 0) rfl) (Zs (Zq (K:=K) rfl) rfl T.n_len PySem.boot_len (Za (Zi (K:=K) rfl (pv 0) rfl) Zd)) (Qv _)))),?_⟩
  refine ⟨_,rfl,_,_,_,_,_,rfl,hd,T.k_Reader,T.na_Reader_place,rfl,_,rfl,_,_,_,_,_,rfl,hd,T.k_Reader,T.na_Reader_source,rfl,src,_,rfl,.inl hs,_,_,rfl,rfl,?_⟩
  rw[List.length_map]
  have e:decide (((l.length:Nat):Int)≤(k:Int))=decide (l.length≤k):=by
   by_cases h:l.length≤k
   ·rw[decide_eq_true h,decide_eq_true (by omega)]
   ·rw[decide_eq_false h,decide_eq_false (by omega)]
  show Q (.bl (decide (((l.length:Nat):Int)≤(k:Int)))) H
  rw[e]
  exact q
def sp_Reader_take_number (t:Adr) (K:PySem.W.Frag):Sp:=fun vs H Q _=>∃(rd dx src:Addr) (k:Nat) (l:List Int),vs=[.ref rd]∧H rd=some (.ins t.C_Reader dx (rdrF src k))∧SqL K H src (zvs l)∧k<l.length∧Q (.int (l.getD k 0)) (upd H rd (.ins t.C_Reader dx (rdrF src (k+1))))
theorem Xj (T:Txt K mg t):OkM P w K mg base 1 t.C_Reader "take_number" ["self"] (sp_Reader_take_number t K):=by
 refine okM T.d_Reader_take_number Jw (fun vs H Q E h=>?_) (fun f cdv A outer s H vs Q E hr h=>?_)
 ·obtain ⟨rd,dx,src,k,l,rfl,hd,hs,hk,q⟩:=h
  rfl
 ·obtain ⟨rd,dx,src,k,l,rfl,hd,hs,hk,q⟩:=h
  refine ⟨_,(Zb (Zo (i:=1) Jw.nd rfl (Or.inl rfl) (Zx (Zl (K:=K) rfl) (Zi (K:=K) rfl (pv 0) rfl) (Zi (K:=K) rfl (pv 0) rfl) (fun _ _=>rfl)))
   (Zb (ps_fldaugK (K:=K) rfl (pv 0) Zf in_add)
   (Ze (Zj (pv 1))))),?_⟩
  refine ⟨_,rfl,_,_,_,_,_,rfl,hd,T.k_Reader,T.na_Reader_source,rfl,_,rfl,_,_,_,_,_,rfl,hd,T.k_Reader,T.na_Reader_place,rfl,src,_,_,_,rfl,rfl,hs,at_i hk rfl,?_⟩
  refine ⟨_,rfl,_,_,_,_,_,rfl,hd,T.k_Reader,T.na_Reader_place,rfl,_,_,rfl,rfl,dx,_,hd,(show 2<1000 by decide),?_⟩
  exact ⟨_,rfl,q⟩
def sp_Reader_take_list (t:Adr) (K:PySem.W.Frag):Sp:=fun vs H Q _=>∃(rd dx src:Addr) (k:Nat) (l x rest:List Int),vs=[.ref rd]∧H rd=some (.ins t.C_Reader dx (rdrF src k))∧SqL K H src (zvs l)∧l.drop k=encRow x++rest∧l.length≤1000000∧∀r H',Qr [rd] H H'→H r=none→H' r=some (.lst (zvs x))→H' rd=some (.ins t.C_Reader dx (rdrF src (k+1+x.length)))→Q (.ref r) H'
theorem Qp (T:Txt K mg t):OkM P w K mg base 2 t.C_Reader "take_list" ["self"] (sp_Reader_take_list t K):=by
 refine okM T.d_Reader_take_list Xy (fun vs H Q E h=>?_) (fun f cdv A outer s H vs Q E hr h=>?_)
 ·obtain ⟨rd,dx,src,k,l,x,rest,rfl,hd,hs,hdr,hl,q⟩:=h
  rfl
 ·obtain ⟨rd,dx,src,k,l,x,rest,rfl,hd,hs,hdr,hl,q⟩:=h
  refine ⟨_,(Zb (Zo (i:=1) Xy.nd rfl (Or.inl rfl) (pm0 (pv 0) T.k_Reader (Xj T) hr))
   (Zb (Zo (i:=2) Xy.nd rfl (Or.inl rfl) (Zi (K:=K) rfl (pv 0) rfl))
   (Zb (ps_fldaugK (K:=K) rfl (pv 0) (pv 1) in_add)
   (Ze (Zj (Z1 (Z0 (K:=K) rfl) (Zi (K:=K) rfl (pv 0) rfl) (Zv (pv 2)) (Zv (Zi (K:=K) rfl (pv 0) rfl)))))))),?_⟩
  obtain ⟨hk,hg,hd1⟩:=drop_get (x:=(x.length:Int)) (r:=x++rest) hdr
  refine ⟨_,rfl,rd,dx,_,rfl,hd,rfl,rd,dx,src,k,l,rfl,hd,hs,hk,?_⟩
  have k1:Qr [rd] H (upd H rd (.ins t.C_Reader dx (rdrF src (k+1)))):=Qr.upd (by simp)
  have x1:(upd H rd (.ins t.C_Reader dx (rdrF src (k+1)))) rd=some (.ins t.C_Reader dx (rdrF src (k+1))):=Zc
  generalize upd H rd (.ins t.C_Reader dx (rdrF src (k+1)))=G1 at *
  rw[hg]
  refine ⟨_,rfl,_,_,_,_,_,rfl,x1,T.k_Reader,T.na_Reader_place,rfl,?_⟩
  refine ⟨_,rfl,_,_,_,_,_,rfl,x1,T.k_Reader,T.na_Reader_place,rfl,_,rfl,_,_,rfl,rfl,dx,_,x1,(show 2<1000 by decide),?_⟩
  have k2:Qr [rd] G1 (upd G1 rd (.ins t.C_Reader dx (putF "place" (.int (((k+1:Nat):Int)+(x.length:Int))) (rdrF src (k+1))))):=Qr.upd (by simp)
  have e2:((k+1:Nat):Int)+(x.length:Int)=((k+1+x.length:Nat):Int):=by omega
  rw[e2] at k2 ⊢
  have x2:(upd G1 rd (.ins t.C_Reader dx (putF "place" (.int ((k+1+x.length:Nat):Int)) (rdrF src (k+1))))) rd=some (.ins t.C_Reader dx (rdrF src (k+1+x.length))):=Zc
  generalize upd G1 rd (.ins t.C_Reader dx (putF "place" (.int ((k+1+x.length:Nat):Int)) (rdrF src (k+1))))=G2 at *
  have hs2:=sqL_ins (sqL_ins hs k1 hd) k2 x1
  refine ⟨_,rfl,_,_,_,_,_,rfl,x2,T.k_Reader,T.na_Reader_source,rfl,_,rfl,_,rfl,_,rfl,_,_,_,_,_,rfl,x2,T.k_Reader,T.na_Reader_place,rfl,_,rfl,src,_,rfl,hs2,fun r hr'=>?_⟩
  rw[cut_i,show k+1+x.length-(k+1)=x.length by omega,hd1]
  have etk:(x++rest).take x.length=x:=by rw[List.take_append_of_le_length (Nat.le_refl _),List.take_of_length_le (Nat.le_refl _)]
  rw[etk]
  have hrd:rd≠r:=Zg x2 hr'
  have K2:Qr [rd] H G2:=k1.trans k2
  exact q r _ (K2.trans (.new hr')) (Je K2 (mem1 (by rw[x2];simp)) hr') Zc ((Zn hrd).trans x2)
theorem drop_app {l a r:List Int} {k:Nat} (h:l.drop k=a++r):l.drop (k+a.length)=r:=by
 rw[← List.drop_drop,h,List.drop_append_of_le_length (Nat.le_refl _),List.drop_of_length_le (Nat.le_refl _),List.nil_append]
def sp_Reader_take_call (t:Adr) (K:PySem.W.Frag):Sp:=fun vs H Q _=>∃(M:List Addr) (rd dx src:Addr) (k:Nat) (l:List Int) (p:Int) (ns:List Int) (xs:List (List Int)) (rest:List Int),vs=[.ref rd]∧rd∈M∧(∀y∈M,H y≠none)∧H rd=some (.ins t.C_Reader dx (rdrF src k))∧SqL K H src (zvs l)∧l.drop k=encC ((p::ns)::xs)++rest∧l.length≤1000000 ∧
 ∀c H',Qr [rd] H H'→H c=none→CallO t M H' c p ns xs→H' rd=some (.ins t.C_Reader dx (rdrF src (k+(encC ((p::ns)::xs)).length)))→Q (.ref c) H'
theorem ok_Reader_take_call (T:Txt K mg t):OkM P w K mg base 3 t.C_Reader "take_call" ["self"] (sp_Reader_take_call t K):=by
 refine okM T.d_Reader_take_call Ym (fun vs H Q E h=>?_) (fun f cdv A outer s H vs Q E hr h=>?_)
 ·obtain ⟨M,rd,dx,src,k,l,p,ns,xs,rest,rfl,hrM,pres,hd,hs,hdr,hl,q⟩:=h
  rfl
 ·obtain ⟨M,rd,dx,src,k,l,p,ns,xs,rest,rfl,hrM,pres,hd,hs,hdr,hl,q⟩:=h
  refine ⟨_,(Zb (Zo (i:=1) Ym.nd rfl (Or.inl rfl) (pm0 (pv 0) T.k_Reader (Xj T) hr))
   (Zb (Zo (i:=2) Ym.nd rfl (Or.inl rfl) (pm0 (pv 0) T.k_Reader (Qp T) hr))
   (Zb (Zo (i:=3) Ym.nd rfl (Or.inl rfl) (Zz Zd))
   (Zb (Y2 PassesOwn.never rfl (pi_range1 rfl T.n_range (Za (pm0 (pv 0) T.k_Reader (Xj T) hr) Zd)) (Z3 (i:=4) Ym.nd rfl (Or.inl rfl)) (Ze (Z6 (Yu (K:=K) rfl PySem.F.plainAttrs_list PySem.F.slot_list_append PySem.F.type_list_append Yk (pv 3) (Za (pm0 (pv 0) T.k_Reader (Qp T) hr) Zd)))))
   (Ze (Zj (pk (ok_Call_init T) hr (Za (pv 1) (Za (pv 2) (Za (pv 3) Zd)))))))))),?_⟩
  have hdr1:l.drop k=p::(encRow ns++((xs.length:Int)::(xs.flatMap encRow++rest))):=by
   rw[hdr]
   show p::(ns.length:Int)::((ns++_)++rest)=_
   rw[List.append_assoc];rfl
  obtain ⟨hk,hg,hd1⟩:=drop_get hdr1
  refine ⟨_,rfl,rd,dx,_,rfl,hd,rfl,rd,dx,src,k,l,rfl,hd,hs,hk,?_⟩
  have k1:Qr [rd] H (upd H rd (.ins t.C_Reader dx (rdrF src (k+1)))):=Qr.upd (by simp)
  have x1:(upd H rd (.ins t.C_Reader dx (rdrF src (k+1)))) rd=some (.ins t.C_Reader dx (rdrF src (k+1))):=Zc
  generalize upd H rd (.ins t.C_Reader dx (rdrF src (k+1)))=G1 at *
  rw[hg]
  have hs1:=sqL_ins hs k1 hd
  refine ⟨_,rfl,rd,dx,_,rfl,x1,rfl,rd,dx,src,k+1,l,ns,_,rfl,x1,hs1,hd1,hl,fun a G2 k2 n2 e2 x2=>?_⟩
  have hs2:=sqL_ins hs1 k2 x1
  have hd2:=drop_app hd1
  have hel:(encRow ns).length=1+ns.length:=by show ns.length+1=_;omega
  rw[hel,show k+1+(1+ns.length)=k+1+1+ns.length by omega] at hd2
  have K2:Qr [rd] H G2:=k1.trans k2
  have pres2:∀y∈M,G2 y≠none:=Yh pres K2 (mem1 (by rw[x2];simp))
  have haM:a∉M:=fun z=>pres a z (Je k1 (mem1 (by rw[x1];simp)) n2)
  refine ⟨(show 0≤sizeLine by decide),fun b nb=>?_⟩
  have s3:=Zk (o:=.lst []) nb
  have b3:(upd G2 b (.lst [])) b=some (.lst []):=Zc
  have x3:=s3 _ _ x2
  have a3:=s3 _ _ e2
  have hbM:b∉M:=fun z=>pres2 b z nb
  have hab:a≠b:=Zg e2 nb
  generalize upd G2 b (.lst [])=G3 at *
  obtain ⟨hk3,hg3,hd3⟩:=drop_get hd2
  refine ⟨_,rfl,rd,dx,_,rfl,x3,rfl,rd,dx,src,_,l,rfl,x3,sqL_same hs2 s3,hk3,?_⟩
  have k4:Qr [rd] G3 (upd G3 rd (.ins t.C_Reader dx (rdrF src (k+1+1+ns.length+1)))):=Qr.upd (by simp)
  have x4:(upd G3 rd (.ins t.C_Reader dx (rdrF src (k+1+1+ns.length+1)))) rd=some (.ins t.C_Reader dx (rdrF src (k+1+1+ns.length+1))):=Zc
  generalize upd G3 rd (.ins t.C_Reader dx (rdrF src (k+1+1+ns.length+1)))=G4 at *
  have hs4:=sqL_ins (sqL_same hs2 s3) k4 x3
  have hrb:rd≠b:=fun z=>by rw[z,b3] at x3;cases x3
  have hra:rd≠a:=fun z=>by rw[z,a3] at x3;cases x3
  have b4:=k4 _ _ (by simpa using Ne.symm hrb) b3
  have a4:=k4 _ _ (by simpa using Ne.symm hra) a3
  have fb:H b=none:=Je K2 (mem1 (by rw[x2];simp)) nb
  have K4:Qr [rd] H G4:=(K2.trans (.of_same s3)).trans k4
  rw[hg3]
  have hxl:xs.length≤l.length:=by
   have h1:=congrArg List.length hd3
   rw[List.length_append,List.length_drop] at h1
   have h2:∀ys:List (List Int),ys.length≤(ys.flatMap encRow).length:=by
    intro ys
    induction ys with
    | nil=>exact Nat.le_refl _
    | cons y ys ih=>
     rw[List.flatMap_cons,List.length_append,List.length_cons]
     have:1≤(encRow y).length:=Nat.succ_le_succ (Nat.zero_le _)
     omega
   have:=h2 xs
   omega
  refine ⟨_,rfl,by omega,by omega,for_range (n:=((xs.length:Nat):Int).toNat) (fun i σ H5=>∃(v4:Option V) (rs:List Addr),σ=[some (.ref rd),some (.int p),some (.ref a),some (.ref b),v4]∧Qr [rd,b] G4 H5∧H5 rd=some (.ins t.C_Reader dx (rdrF src (k+1+1+ns.length+1+((xs.take i).flatMap encRow).length)))∧H5 b=some (.lst (rs.map V.ref))∧Paired (fun r x=>Off (b::M) H5 r (.lst (zvs x))) rs (xs.take i)) ⟨none,[],rfl,Qr.refl _ _,x4,b4,.nil⟩ ?_ ?_⟩
  ·rintro i σ H5 hi ⟨v4,rs,rfl,K5,x5,b5,hp5⟩
   have hs5:SqL K H5 src (zvs l):=sqL_pres hs ((K4.mono (mem1 (by simp))).trans K5) (mem2 (.inr ⟨_,_,_,hd⟩) (.inl fb))
   rw[Int.toNat_natCast] at hi
   have hrl:rs.length=i:=by rw[Paired.length hp5,List.length_take];omega
   have hd5:l.drop (k+1+1+ns.length+1+((xs.take i).flatMap encRow).length)=encRow (xs[i])++((xs.drop (i+1)).flatMap encRow++rest):=by
    rw[← List.drop_drop,hd3]
    have e:xs.flatMap encRow=(xs.take i).flatMap encRow++(encRow xs[i]++(xs.drop (i+1)).flatMap encRow):=by
     rw[← List.flatMap_cons,← List.drop_eq_getElem_cons hi,← List.flatMap_append,List.take_append_drop]
    rw[e,List.append_assoc,List.drop_append_of_le_length (Nat.le_refl _),List.drop_of_length_le (Nat.le_refl _),List.nil_append,List.append_assoc]
   refine ⟨_,rfl,Yg b5,_,rfl,rd,dx,_,rfl,x5,rfl,rd,dx,src,_,l,xs[i],_,rfl,x5,hs5,hd5,hl,fun r H6 k6 n6 e6 x6=>?_⟩
   have b6:=k6 _ _ (by simpa using Ne.symm hrb) b5
   refine ⟨b,_,_,rfl,rfl,b6,by rw[List.length_map,hrl,Qt];omega,?_⟩
   have hrbne:r≠b:=fun z=>by rw[z,b5] at n6;cases n6
   have hrM':r∉M:=fun z=>by
    have h0:G4 r≠none:=Yh pres K4 (mem1 (by rw[x4];simp)) r z
    have h1:H5 r≠none:=by
     by_cases e:r∈[rd,b]
     ·revert e;exact fun e=>mem2 (P:=fun y=>H5 y≠none) (by rw[x5];simp) (by rw[b5];simp) r e
     ·cases hq:G4 r with
      | none=>exact absurd hq h0
      | some o=>rw[K5 r o e hq];simp
    exact h1 n6
   have k7:Qr [b] H6 (upd H6 b (.lst (rs.map V.ref++[V.ref r]))):=Qr.upd (by simp)
   refine ⟨some (.int (0+(i:Nat))),rs++[r],rfl,K5.trans ((k6.mono (mem1 (by simp))).trans (k7.mono (mem1 (by simp)))),?_,by rw[Zc,List.map_append];rfl,?_⟩
   ·rw[Zn hrb,x6,List.take_add_one,List.getElem?_eq_getElem hi,List.flatMap_append,List.length_append]
    have:((some xs[i]).toList.flatMap encRow).length=1+xs[i].length:=by
     show (encRow xs[i]++[]).length=_
     rw[List.append_nil]
     show xs[i].length+1=_
     omega
    rw[this,show k+1+1+ns.length+1+((xs.take i).flatMap encRow).length+1+xs[i].length=k+1+1+ns.length+1+(((xs.take i).flatMap encRow).length+(1+xs[i].length)) by omega]
   ·rw[List.take_add_one,List.getElem?_eq_getElem hi]
    refine Paired.snoc (Paired.mapP hp5 fun r' x' d=>?_) ⟨(Zn hrbne).trans e6,by simp[hrbne,hrM']⟩
    exact (d.keep1 k6 (mem1 (List.mem_cons_of_mem _ hrM))).keep1 k7 (mem1 (by simp))
  ·rintro σ H5 ⟨v4,rs,rfl,K5,x5,b5,hp5⟩
   rw[Int.toNat_natCast,List.take_of_length_le (Nat.le_refl _)] at hp5 x5
   have a5:=K5 _ _ (by simp[Ne.symm hra,hab]) a4
   refine ⟨_,rfl,_,rfl,_,rfl,fun c dxc nc ndc hdc=>⟨c,dxc,_,_,_,rfl,Zc,rfl,?_⟩⟩
   rw[Jb]
   have s6:Same H5 (upd (upd H5 dxc (.own c)) c (.ins t.C_Call dxc (callF p a b))):=fun y o eb=>by rw[Zn (Zg eb nc),Zn (Zg eb ndc)];exact eb
   have c6:(upd (upd H5 dxc (.own c)) c (.ins t.C_Call dxc (callF p a b))) c=some (.ins t.C_Call dxc (callF p a b)):=Zc
   have eG:upd (upd H5 dxc (.own c)) c (.ins t.C_Call dxc [("number",V.int p),("numbers",V.ref a),("lists",V.ref b)])=upd (upd H5 dxc (.own c)) c (.ins t.C_Call dxc (callF p a b)):=rfl
   rw[eG]
   generalize upd (upd H5 dxc (.own c)) c (.ins t.C_Call dxc (callF p a b))=G6 at *
   have K5':Qr [rd] H H5:=fun y o hy hyo=>by
    have hyb:y≠b:=fun z=>by rw[z,fb] at hyo;cases hyo
    exact K5 y o (by simp at hy;simp[hy,hyb]) (K4 y o hy hyo)
   have pres5:∀y∈M,H5 y≠none:=Yh pres K5' (mem1 (by rw[x5];simp))
   refine q c G6 (K5'.trans (.of_same s6)) (Je K5' (mem1 (by rw[x5];simp)) nc) ⟨dxc,a,b,⟨c6,fun z=>pres5 c z nc⟩,⟨s6 _ _ a5,haM⟩,rs,⟨s6 _ _ b5,hbM⟩,Paired.mapP hp5 fun r x d=>⟨s6 _ _ d.1,fun z=>d.2 (List.mem_cons_of_mem _ z)⟩⟩ ?_
   rw[s6 _ _ x5]
   have:(encC ((p::ns)::xs)).length=1+1+ns.length+1+(xs.flatMap encRow).length:=by
    show (ns++((xs.length:Int)::xs.flatMap encRow)).length+1+1=_
    rw[List.length_append,List.length_cons];omega
   rw[this,show k+(1+1+ns.length+1+(xs.flatMap encRow).length)=k+1+1+ns.length+1+(xs.flatMap encRow).length by omega]
def CallP (t:Adr) (M:List Addr) (H:Hp) (c:Addr) (call:List (List Int)):Prop:=∃p ns xs,call=(p::ns)::xs∧CallO t M H c p ns xs
theorem CallP.keep {t:Adr} {M M' F:List Addr} {H H':Hp} {c:Addr} {call:List (List Int)} (h:CallP t M H c call) (k:Qr F H H') (hF:∀x∈F,x∈M) (hM:∀x∈M',x∈M∨H x=none):CallP t M' H' c call:=by
 obtain ⟨p,ns,xs,e,h⟩:=h
 exact ⟨p,ns,xs,e,h.keep k hF hM⟩
theorem encC_pos (p:Int) (ns:List Int) (xs:List (List Int)):0<(encC ((p::ns)::xs)).length:=Nat.succ_pos _
def sp_split_calls (t:Adr) (K:PySem.W.Frag):Sp:=fun vs H Q _=>∃(M0:List Addr) (src:Addr) (l:List Int) (cs:List (List (List Int))),vs=[.ref src]∧(∀y∈M0,H y≠none)∧SqL K H src (zvs l)∧l.length≤1000000∧(∀c∈cs,∃p ns xs,c=(p::ns)::xs)∧l=cs.flatMap encC ∧
 ∀r H' ds,Same H H'→H r=none→H' r=some (.lst (ds.map V.ref))→Paired (fun c call=>CallP t M0 H' c call) ds cs→Q (.ref r) H'
theorem ok_split_calls (T:Txt K mg t):OkF P w K mg base 4 "split_calls" ["source"] (sp_split_calls t K):=by
 refine okF T.d_split_calls sc_split_calls (fun vs H Q E h=>?_) (fun f cdv A outer s H vs Q E hr h=>?_)
 ·obtain ⟨M0,src,l,cs,rfl,pres0,hs,hl,hcs,hlc,q⟩:=h
  rfl
 ·obtain ⟨M0,src,l,cs,rfl,pres0,hs,hl,hcs,hlc,q⟩:=h
  refine ⟨_,(Zb (Zo (i:=1) sc_split_calls.nd rfl (Or.inl rfl) (pk (ok_Reader_init T) hr (Za (pv 0) Zd)))
   (Zb (Zo (i:=2) sc_split_calls.nd rfl (Or.inl rfl) (Zz Zd))
   (Zb (ps_while PassesOwn.never (Xa (Ji (pm0 (pv 1) T.k_Reader (ok_Reader_at_end T) hr))) (Ze (Z6 (Yu (K:=K) rfl PySem.F.plainAttrs_list PySem.F.slot_list_append PySem.F.type_list_append Yk (pv 2) (Za (pm0 (pv 1) T.k_Reader (ok_Reader_take_call T) hr) Zd)))))
   (Ze (Zj (pv 2)))))),?_⟩
  refine ⟨_,rfl,fun rd dx nrd ndx hne=>⟨rd,dx,src,rfl,Zc,rfl,?_⟩⟩
  rw[Jb]
  have s1:Same H (upd (upd H dx (.own rd)) rd (.ins t.C_Reader dx (rdrF src 0))):=fun b o eb=>by rw[Zn (Zg eb nrd),Zn (Zg eb ndx)];exact eb
  have x1:(upd (upd H dx (.own rd)) rd (.ins t.C_Reader dx (rdrF src 0))) rd=some (.ins t.C_Reader dx (rdrF src 0)):=Zc
  generalize upd (upd H dx (.own rd)) rd (.ins t.C_Reader dx (rdrF src 0))=G1 at *
  refine ⟨(show 0≤sizeLine by decide),fun fd nfd=>?_⟩
  have s2:=Zk (o:=.lst []) nfd
  have f2:(upd G1 fd (.lst [])) fd=some (.lst []):=Zc
  have x2:=s2 _ _ x1
  have hrf:rd≠fd:=Zg x1 nfd
  generalize upd G1 fd (.lst [])=G2 at *
  have nf:H fd=none:=s1.free nfd
  have S2:=s1.trans s2
  have hcl:cs.length≤l.length:=by
   rw[hlc]
   have:∀ys:List (List (List Int)),(∀c∈ys,∃p ns xs,c=(p::ns)::xs)→ys.length≤(ys.flatMap encC).length:=by
    intro ys
    induction ys with
    | nil=>intro _;exact Nat.le_refl _
    | cons y ys ih=>
     intro hy
     obtain ⟨p,ns,xs,rfl⟩:=hy y (by simp)
     have:=ih fun c hc=>hy c (List.mem_cons_of_mem _ hc)
     rw[List.flatMap_cons,List.length_append,List.length_cons]
     have h2:=encC_pos p ns xs
     omega
   exact this cs hcs
  refine ⟨fun m σ H3=>∃(i:Nat) (ds:List Addr),σ=[some (.ref src),some (.ref rd),some (.ref fd)]∧m=cs.length-i∧i≤cs.length∧Qr [rd,fd] G2 H3∧H3 rd=some (.ins t.C_Reader dx (rdrF src ((cs.take i).flatMap encC).length))∧H3 fd=some (.lst (ds.map V.ref))∧Paired (fun c call=>CallP t (rd::fd::M0) H3 c call) ds (cs.take i),
   ⟨_,0,[],rfl,rfl,Nat.zero_le _,Qr.refl _ _,x2,f2,.nil⟩,?_⟩
  rintro m σ H3 ⟨i,ds,rfl,rfl,hi,K3,x3,f3,hp3⟩
  have KH3:Qr [rd,fd] H H3:=(Qr.of_same S2).trans K3
  have hs3:SqL K H3 src (zvs l):=sqL_pres hs KH3 (mem2 (.inl nrd) (.inl nf))
  have hsplit:l=(cs.take i).flatMap encC++(cs.drop i).flatMap encC:=by rw[hlc,← List.flatMap_append,List.take_append_drop]
  have hpr3:∀y∈rd::fd::M0,H3 y≠none:=by
   intro y hy
   rcases List.mem_cons.mp hy with e|hy
   ·rw[e,x3];simp
   ·rcases List.mem_cons.mp hy with e|hy
    ·rw[e,f3];simp
    ·cases hq:H y with
     | none=>exact absurd hq (pres0 y hy)
     | some o=>
      have hyr:y≠rd:=fun z=>by rw[z,nrd] at hq;cases hq
      have hyf:y≠fd:=fun z=>by rw[z,nf] at hq;cases hq
      rw[KH3 y o (by simp[hyr,hyf]) hq];simp
  have hdsl:ds.length=i:=by rw[Paired.length hp3,List.length_take];omega
  refine ⟨_,rfl,rd,dx,_,rfl,x3,rfl,rd,dx,src,_,l,rfl,x3,hs3,_,rfl,ite2 (fun h1=>⟨_,fun _ _ x=>x,?_⟩) fun h1=>?_⟩
  ·have hlt:i<cs.length:=by
    refine Nat.lt_of_not_le fun z=>?_
    have e0:cs.drop i=[]:=List.drop_of_length_le z
    have:l.length≤((cs.take i).flatMap encC).length:=by
     have:=congrArg List.length hsplit
     rw[e0,List.flatMap_nil,List.append_nil] at this
     omega
    rw[decide_eq_true this] at h1
    exact absurd h1 (by decide)
   obtain ⟨p,ns,xs,hci⟩:=hcs cs[i] (List.getElem_mem hlt)
   have hdr:l.drop ((cs.take i).flatMap encC).length=encC ((p::ns)::xs)++(cs.drop (i+1)).flatMap encC:=by
    rw[← hci,← List.flatMap_cons,← List.drop_eq_getElem_cons hlt]
    conv=>lhs;rw[hsplit]
    rw[List.drop_append_of_le_length (Nat.le_refl _),List.drop_of_length_le (Nat.le_refl _),List.nil_append]
   refine ⟨_,rfl,Yg f3,_,rfl,rd,dx,_,rfl,x3,rfl,rd::fd::M0,rd,dx,src,_,l,p,ns,xs,_,rfl,by simp,hpr3,x3,hs3,hdr,hl,fun c H4 k4 nc hC x4=>?_⟩
   have f4:=k4 _ _ (by simpa using Ne.symm hrf) f3
   refine ⟨fd,_,_,rfl,rfl,f4,by rw[List.length_map,hdsl,Qt];omega,?_⟩
   have k5:Qr [fd] H4 (upd H4 fd (.lst (ds.map V.ref++[V.ref c]))):=Qr.upd (by simp)
   refine ⟨cs.length-(i+1),by omega,i+1,ds++[c],rfl,rfl,hlt,K3.trans ((k4.mono (mem1 (by simp))).trans (k5.mono (mem1 (by simp)))),?_,by rw[Zc,List.map_append];rfl,?_⟩
   ·rw[Zn hrf,x4,List.take_add_one,List.getElem?_eq_getElem hlt,List.flatMap_append,List.length_append,hci]
    show _=some (HO.ins t.C_Reader dx (rdrF src (_+(encC ((p::ns)::xs)++[]).length)))
    rw[List.append_nil]
   ·rw[List.take_add_one,List.getElem?_eq_getElem hlt]
    refine Paired.snoc (Paired.mapP hp3 fun c' call d=>?_) ⟨p,ns,xs,hci,hC.keep k5 (mem1 (by simp)) fun y hy=>.inl hy⟩
    exact (d.keep k4 (mem1 (by simp)) fun y hy=>.inl hy).keep k5 (mem1 (by simp)) fun y hy=>.inl hy
  ·have hge:cs.length≤i:=by
    refine Nat.le_of_not_lt fun z=>?_
    obtain ⟨p,ns,xs,hci⟩:=hcs cs[i] (List.getElem_mem z)
    have:¬ l.length≤((cs.take i).flatMap encC).length:=by
     have h2:=congrArg List.length hsplit
     rw[List.drop_eq_getElem_cons z,List.flatMap_cons,List.length_append,List.length_append,hci] at h2
     have:=encC_pos p ns xs
     omega
    rw[decide_eq_false this] at h1
    exact h1 rfl
   rw[List.take_of_length_le hge] at hp3
   have SH:Same H H3:=fun b o eb=>by
    refine KH3 b o (fun z=>?_) eb
    simp only[List.mem_cons,List.not_mem_nil,or_false] at z
    rcases z with z|z
    ·rw[z,nrd] at eb;cases eb
    ·rw[z,nf] at eb;cases eb
   exact ⟨_,rfl,q fd H3 ds SH nf f3 (Paired.mapP hp3 fun c call d=>d.keep (F:=[]) (Qr.refl _ _) (by simp) fun y hy=>.inl (List.mem_cons_of_mem _ (List.mem_cons_of_mem _ hy)))⟩
end
def DeskO (t:Adr) (M:List Addr) (H:Hp) (d:Addr) (a:VA):Option Md33.Book→Prop
 | none=>(∃dx,H d=some (.ins t.C_Desk dx [("volume",.non)]))∧(∀y∈M,H y≠none)∧d∉M
 | some b=>(∃dx,H d=some (.ins t.C_Desk dx [("volume",.ref a.v)]))∧Vol t M H a b∧d∉M
def DPost (t:Adr) (M:List Addr) (H:Hp) (d:Addr) (a:VA) (y:Md33.St×Md33.Ans) (Q:VK):Prop:=
 ∀r M' a' H',Qr (d::foot a) H H'→(∀z∈M,z∈M')→(∀z∈M',z∈M∨H z=none)→(∀z∈foot a',z∈foot a∨H z=none)→DeskO t M' H' d a' y.1→H' r=some (.lst (zvs (y.2.value::y.2.out)))→(H r=none∨r∈foot a)→Q (.ref r) H'
theorem desk_pres {t:Adr} {M:List Addr} {H:Hp} {d:Addr} {a:VA} {s:Option Md33.Book} (h:DeskO t M H d a s):(∀y∈M,H y≠none)∧d∉M:=by
 cases s with
 | none=>exact h.2
 | some b=>obtain ⟨_,X,n⟩:=h;obtain ⟨es,L,X0,_⟩:=X.ex;exact ⟨X0.hst.hen.pres,n⟩
theorem zvs_nats (l:List Nat):zvs (Md33.ints l)=nats l:=by
 unfold Md33.ints zvs
 rw[List.map_map];rfl
theorem dstay {t:Adr} {M:List Addr} {H H':Hp} {d:Addr} {a:VA} {s:Option Md33.Book} (h:DeskO t M H d a s) (S:Same H H'):DeskO t M H' d a s:=by
 cases s with
 | none=>obtain ⟨⟨dx,h⟩,p,n⟩:=h;exact ⟨⟨dx,S _ _ h⟩,Yh (F:=[]) p (.of_same S) (by simp),n⟩
 | some b=>obtain ⟨⟨dx,h⟩,v,n⟩:=h;exact ⟨⟨dx,S _ _ h⟩,v.same S,n⟩
theorem Zt {t:Adr} {M:List Addr} {H H':Hp} {d:Addr} {a:VA} {s:Option Md33.Book} {an:Md33.Ans} {Q:VK} (q:DPost t M H d a (s,an) Q) (h:DeskO t M H d a s) (S:Same H H') {r:Addr} (e:H' r=some (.lst (zvs (an.value::an.out)))) (n:H r=none):Q (.ref r) H':=
 q r M a H' (.of_same S) (fun z hz=>hz) (fun z hz=>.inl hz) (fun z hz=>.inl hz) (dstay h S) e (.inl n)
theorem fresh_or {M:List Addr} {H G:Hp} {r:Addr} (k:Qr M H G) (n:G r=none):H r=none∨r∈M:=by
 by_cases h:r∈M
 ·exact .inr h
 ·refine .inl ?_
  cases q:H r with
  | none=>rfl
  | some o=>rw[k r o h q] at n;cases n
theorem fresh_d {M:List Addr} {H G:Hp} {d r:Addr} (k:Qr (d::M) H G) (hd:G d≠none) (n:G r=none):H r=none∨r∈M:=by
 rcases fresh_or k n with h|h
 ·exact .inl h
 ·rcases List.mem_cons.mp h with h|h
  ·rw[h] at n;exact absurd n hd
  ·exact .inr h
theorem rchain {σ:St} {H:Hp} {lo hi z:Int} {R:VK} (q:R (.bl (Md33.within z lo hi)) H):
  rI0 (fun i j=>V.bl (decide (i≤j))) (V.int lo) (V.int z) H fun z' H3=>∃k,z'=.bl k∧(if k=true then tC (V.int hi) σ H3 fun w' H4=>rI0 (fun i j=>V.bl (decide (i≤j))) (V.int z) w' H4 R else R (.bl false) H3):=by
 refine ⟨_,_,rfl,rfl,_,rfl,ite2 (fun h=>⟨_,_,rfl,rfl,?_⟩) fun h=>?_⟩
 ·unfold Md33.within at q
  rw[h,Bool.true_and] at q
  exact q
 ·unfold Md33.within at q
  rw[Bool.eq_false_iff.mpr h,Bool.false_and] at q
  exact q
section
variable {P:Program} {w:World} {K:PySem.W.Frag} {mg:Str→Option Value} {base:Heap} {t:Adr}
def sp_Desk_init (t:Adr):Sp:=fun vs H Q _=>∃(x dx:Addr),vs=[.ref x]∧H x=some (.ins t.C_Desk dx [])∧Q .non (upd H x (.ins t.C_Desk dx [("volume",.non)]))
theorem ok_Desk_init (T:Txt K mg t):OkC P w K mg base 1 t.C_Desk "Desk" ["self"] (sp_Desk_init t):=by
 refine okC T.d_Desk_init sc_Desk_init (fun vs H Q E h=>?_) (fun f cdv A outer s H vs Q E hr h=>?_)
 ·obtain ⟨x,dx,rfl,hx,q⟩:=h
  rfl
 ·obtain ⟨x,dx,rfl,hx,q⟩:=h
  refine ⟨_,(Ze (Ye (K:=K) rfl (pv 0) pe_non rfl)),?_⟩
  refine ⟨_,rfl,x,_,dx,_,rfl,hx,T.k_Desk,T.na_Desk_volume,(show 0<1000 by decide),?_⟩
  exact q
def sp_Desk_answer_sum (t:Adr):Sp:=fun vs H Q _=>∃(M:List Addr) (a:VA) (d p:Addr) (b:Md33.Book) (z:Int) (l:List Nat),vs=[.ref d,.int z,.ref p]∧DeskO t M H d a (some b)∧H p=some (.lst (nats l))∧(∀x∈l,x<256)∧l.length≤100000∧DPost t M H d a (Md33.answer (some b) (.sum z l)) Q
theorem ok_Desk_answer_sum (T:Txt K mg t):OkM P w K mg base 4 t.C_Desk "answer_sum" ["self","length","data"] (sp_Desk_answer_sum t):=by
 refine okM T.d_Desk_answer_sum sc_Desk_answer_sum (fun vs H Q E h=>?_) (fun f cdv A outer s H vs Q E hr h=>?_)
 ·obtain ⟨M,a,d,p,b,z,l,rfl,hD,hp,hb,hl,q⟩:=h
  rfl
 ·obtain ⟨M,a,d,p,b,z,l,rfl,hD,hp,hb,hl,q⟩:=h
  refine ⟨_,(Zb (Z4 (Xa (X9 Xm Xm Zf (pv 1) (pgi rfl T.c_MOST_SUMMED_BYTES))) (Ze (Zj (Zz (Za (pgi rfl T.c_OUT_OF_RANGE) Zd)))) Zr)
   (Ze (Zj (Zm Yl (Zz (Za Zf Zd)) (pf (ok_sum_of T) hr (Za (pv 2) Zd)))))),?_⟩
  have ha:Md33.answer (some b) (.sum z l)=if Md33.within z 0 65536=false then (some b,Md33.only (-8)) else (some b,⟨0,Md33.ints (Md33.sum l)⟩):=rfl
  refine ⟨_,rfl,rchain ⟨_,rfl,?_⟩⟩
  cases hw:Md33.within z 0 65536 with
  | false=>
   rw[ha,if_pos hw] at q
   refine iteT ?_
   exact ⟨(show 1≤sizeLine by decide),fun r hr'=>Zt q hD (Zk hr') Zc hr'⟩
  | true=>
   rw[ha,if_neg (by rw[hw];exact Bool.noConfusion)] at q
   refine iteF ?_
   refine ⟨(show 1≤sizeLine by decide),fun p1 n1=>?_⟩
   obtain ⟨s1,e1⟩:=Zp (o:=.lst [V.int 0]) n1
   generalize upd H p1 (.lst [V.int 0])=G1 at *
   refine ⟨_,rfl,p,l,rfl,s1 _ _ hp,by omega,hb,fun p2 H2 s2 n2 e2=>?_⟩
   refine rcat (s2 _ _ e1) e2 (by rw[Zh,Xo];decide) fun p3 n3=>?_
   have S:=s1.trans s2
   refine Zt q hD (S.trans (Zk n3)) ?_ (S.free n3)
   rw[Zc]
   show some (HO.lst (V.int 0::nats (Md33.sum l)))=some (HO.lst (V.int 0::zvs (Md33.ints (Md33.sum l))))
   rw[zvs_nats]
def sp_Desk_answer_state (t:Adr):Sp:=fun vs H Q _=>∃(M:List Addr) (a:VA) (d:Addr) (b:Md33.Book),vs=[.ref d]∧DeskO t M H d a (some b)∧DPost t M H d a (Md33.answer (some b) .state) Q
theorem ok_Desk_answer_state (T:Txt K mg t):OkM P w K mg base 2 t.C_Desk "answer_state" ["self"] (sp_Desk_answer_state t):=by
 refine okM T.d_Desk_answer_state Xq (fun vs H Q E h=>?_) (fun f cdv A outer s H vs Q E hr h=>?_)
 ·obtain ⟨M,a,d,b,rfl,hD,q⟩:=h
  rfl
 ·obtain ⟨M,a,d,b,rfl,hD,q⟩:=h
  refine ⟨_,(Zb (Zo (i:=1) Xq.nd rfl (Or.inl rfl) (Zi (K:=K) rfl (pv 0) rfl))
   (Zb (Zo (i:=2) Xq.nd rfl (Or.inl rfl) (Zi (K:=K) rfl (pv 1) rfl))
   (Ze (Zj (Zm Yl (Zz (Za Zf (Za (Zs (Zq (K:=K) rfl) rfl T.n_len PySem.boot_len (Za (Zi (K:=K) rfl (pv 1) rfl) Zd)) (Za (pm0 (pv 2) T.k_History (Z7 T) hr) (Za (Zs call_lenT rfl T.n_len PySem.boot_len (Za (Zi (K:=K) rfl (pv 2) rfl) Zd)) Zd))))) (pm0 (pv 1) T.k_Volume (Xc T) hr)))))),?_⟩
  obtain ⟨⟨dxd,od⟩,X,hdM⟩:=id hD
  obtain ⟨es,L,X0,g⟩:=X.ex
  obtain ⟨dx,sv,ov,os⟩:=X0.ov
  obtain ⟨dxh,oh⟩:=X0.hst.hen.oh
  obtain ⟨kvs,o1,o2⟩:=X0.hst.os
  have hst:b.stand∈b.stands:=Yb g.good.ne
  have hso:Sorted b.stand.records:=by rw[(g.good.st _ hst).rcs];exact Yp _
  have hkl:kvs.length=b.stand.records.length:=o2.len hso
  have hE:0<(b.stands.map endOf).length:=by rw[List.length_map];exact List.length_pos_iff.mpr g.good.ne
  refine ⟨_,rfl,_,_,_,_,_,rfl,od,T.k_Desk,T.na_Desk_volume,rfl,_,rfl,_,_,_,_,_,rfl,ov,T.k_Volume,T.na_Volume_history,rfl,?_⟩
  refine ⟨_,rfl,_,_,_,_,_,rfl,ov,T.k_Volume,T.na_Volume_content,rfl,a.co,_,rfl,.inl (SqL.of X0.oc),_,rfl,a.h,dxh,_,rfl,oh,rfl,M,a.h,a.en,a.ch,a.sd,_,_,rfl,X0.hst.hen,hE,_,rfl,_,_,_,_,_,rfl,oh,T.k_History,T.na_History_standing,rfl,a.sd,kvs,rfl,o1,(show 4≤sizeLine by decide),fun p1 n1=>?_⟩
  rw[Zh,hkl,List.length_map]
  obtain ⟨s1,e1⟩:=Zp (o:=.lst [V.int 0,V.int b.bytes.length,nV (b.stands.length-1),V.int b.stand.records.length]) n1
  generalize upd H p1 (.lst [V.int 0,V.int b.bytes.length,nV (b.stands.length-1),V.int b.stand.records.length])=G1 at *
  refine ⟨_,rfl,a.v,dx,_,rfl,s1 _ _ ov,rfl,M,a,b.key,b.bytes,L,b.stands,rfl,X0.same s1,fun p2 H2 s2 n2 e2=>?_⟩
  have hl20:(last20 b.bytes).length=20:=by unfold last20;rw[List.length_drop];have:=g.good.len;omega
  refine rcat (s2 _ _ e1) e2 (by rw[Zh,hl20];show 4+20≤sizeLine;decide) fun p3 n3=>?_
  have S:=s1.trans s2
  refine Zt q hD (S.trans (Zk n3)) ?_ (S.free n3)
  rw[Zc]
  show some (HO.lst (V.int 0::V.int b.bytes.length::nV (b.stands.length-1)::V.int b.stand.records.length::nats (last20 b.bytes)))=some (HO.lst (V.int 0::V.int b.bytes.length::V.int b.count::V.int b.stand.records.length::zvs (Md33.ints b.last)))
  rw[zvs_nats]
  rfl
def sp_Desk_answer_bytes (t:Adr):Sp:=fun vs H Q _=>∃(M:List Addr) (a:VA) (d:Addr) (b:Md33.Book) (x y:Int),vs=[.ref d,.int x,.int y]∧DeskO t M H d a (some b)∧DPost t M H d a (Md33.answer (some b) (.bytes x y)) Q
theorem ok_Desk_answer_bytes (T:Txt K mg t):OkM P w K mg base 1 t.C_Desk "answer_bytes" ["self","begin","most"] (sp_Desk_answer_bytes t):=by
 refine okM T.d_Desk_answer_bytes Qa (fun vs H Q E h=>?_) (fun f cdv A outer s H vs Q E hr h=>?_)
 ·obtain ⟨M,a,d,b,x,y,rfl,hD,q⟩:=h
  rfl
 ·obtain ⟨M,a,d,b,x,y,rfl,hD,q⟩:=h
  refine ⟨_,(Zb (Z4 (PW.pt (pw_or (Zu op_lt (pv 1) Zf (Qv _)) (pw_or1 (Xa (X9 Xm Xm Zf (pv 2) (pgi rfl T.c_MOST_SHOWN_BYTES)))))) (Ze (Zj (Zz (Za (pgi rfl T.c_OUT_OF_RANGE) Zd)))) Zr)
   (Zb (Zo (i:=3) Qa.nd rfl (Or.inl rfl) (Zi (K:=K) rfl (Zi (K:=K) rfl (pv 0) rfl) rfl))
   (Ze (Zj (Zm Yl (Zz (Za (Zs (Zq (K:=K) rfl) rfl T.n_len PySem.boot_len (Za (pv 3) Zd)) Zd)) (Z1 (Z0 (K:=K) rfl) (pv 3) (Zv (pv 1)) (Zv (Zm Z5 (pv 1) (pv 2))))))))),?_⟩
  obtain ⟨⟨dxd,od⟩,X,hdM⟩:=id hD
  obtain ⟨es,L,X0,g⟩:=X.ex
  have hX:=X.len
  obtain ⟨dx,sv,ov,os⟩:=X0.ov
  have ha:Md33.answer (some b) (.bytes x y)=if x<0∨Md33.within y 0 65536=false then (some b,Md33.only (-8)) else (some b,⟨(b.bytes.length:Int),Md33.ints ((b.bytes.drop x.toNat).take y.toNat)⟩):=rfl
  rw[ha] at q
  refine ⟨_,rfl,_,_,rfl,rfl,_,rfl,ite2 (fun h=>?_) fun h=>?_⟩
  ·rw[if_pos (.inl (of_decide_eq_true h))] at q
   refine iteT ?_
   exact ⟨(show 1≤sizeLine by decide),fun r hr'=>Zt q hD (Zk hr') Zc hr'⟩
  have h0:¬ x<0:=fun z=>h (decide_eq_true z)
  refine ⟨_,rfl,rchain ⟨_,rfl,?_⟩⟩
  cases hw:Md33.within y 0 65536 with
  | false=>
   rw[if_pos (.inr hw)] at q
   refine iteT ?_
   exact ⟨(show 1≤sizeLine by decide),fun r hr'=>Zt q hD (Zk hr') Zc hr'⟩
  | true=>
   rw[if_neg (by rw[hw];rintro (z|z);exact h0 z;cases z)] at q
   have hy:0≤y∧y≤65536:=by
    unfold Md33.within at hw
    simpa using hw
   refine iteF ?_
   refine ⟨_,rfl,_,_,_,_,_,rfl,od,T.k_Desk,T.na_Desk_volume,rfl,_,_,_,_,_,rfl,ov,T.k_Volume,T.na_Volume_content,rfl,?_⟩
   refine ⟨_,rfl,a.co,_,rfl,.inl (SqL.of X0.oc),(show 1≤sizeLine by decide),fun p1 n1=>?_⟩
   rw[Zh]
   obtain ⟨s1,e1⟩:=Zp (o:=.lst [V.int b.bytes.length]) n1
   generalize upd H p1 (.lst [V.int b.bytes.length])=G1 at *
   refine ⟨_,rfl,_,rfl,_,rfl,_,rfl,_,rfl,_,_,rfl,rfl,_,rfl,a.co,_,rfl,SqL.of (s1 _ _ X0.oc),fun p2 n2=>?_⟩
   have ex:x=((x.toNat:Nat):Int):=by omega
   have ey:x+y=((x.toNat+y.toNat:Nat):Int):=by omega
   have ecut:cutV (nats b.bytes) (some x) (some (x+y))=nats ((b.bytes.drop x.toNat).take y.toNat):=by
    rw[ey,ex,cut_nn,Int.toNat_natCast,Nat.add_sub_cancel_left]
   rw[ecut]
   obtain ⟨s2,e2⟩:=Zp (o:=.lst (nats ((b.bytes.drop x.toNat).take y.toNat))) n2
   generalize upd G1 p2 (.lst (nats ((b.bytes.drop x.toNat).take y.toNat)))=G2 at *
   refine rcat (s2 _ _ e1) e2 (by rw[Zh,List.length_take,List.length_drop];show 1+_≤_;rw[Qt];omega) fun p3 n3=>?_
   have S:=s1.trans s2
   refine Zt q hD (S.trans (Zk n3)) ?_ (S.free n3)
   rw[Zc]
   show some (HO.lst (V.int b.bytes.length::nats _))=some (HO.lst (V.int b.bytes.length::zvs (Md33.ints _)))
   rw[zvs_nats]
theorem ex_num {t:Adr} {M:List Addr} {H:Hp} {c:Addr} {r:Md33.Record} (h:CR t M H c r):∃ear dx q bd,Off M H c (.ins t.C_Change dx (chgF r.number ear q true r.kind bd))∧Off M H q (.tup (nats r.name))∧Off M H bd (.lst (nats r.body)):=by
 obtain ⟨ear,dx,q,bd,h1,h2,h3⟩:=h
 exact ⟨ear,dx,q,bd,h1,h2,h3⟩
def sp_Desk_answer_get (t:Adr):Sp:=fun vs H Q _=>∃(M:List Addr) (a:VA) (d nm:Addr) (b:Md33.Book) (z:Int) (name:List Nat),vs=[.ref d,.int z,.ref nm]∧DeskO t M H d a (some b)∧H nm=some (.lst (nats name))∧DPost t M H d a (Md33.answer (some b) (.get z name)) Q
theorem ok_Desk_answer_get (T:Txt K mg t):OkM P w K mg base 2 t.C_Desk "answer_get" ["self","name_length","name"] (sp_Desk_answer_get t):=by
 refine okM T.d_Desk_answer_get sc_Desk_answer_get (fun vs H Q E h=>?_) (fun f cdv A outer s H vs Q E hr h=>?_)
 ·obtain ⟨M,a,d,nm,b,z,name,rfl,hD,hn,q⟩:=h
  rfl
 ·obtain ⟨M,a,d,nm,b,z,name,rfl,hD,hn,q⟩:=h
  refine ⟨_,(Zb (Z4 (Xa (Ji (pf (Yz T) hr (Za (pv 1) Zd)))) (Ze (Zj (Zz (Za (pgi rfl T.c_OUT_OF_RANGE) Zd)))) Zr)
   (Zb (Zo (i:=3) sc_Desk_answer_get.nd rfl (Or.inl rfl) (pm (Zi (K:=K) rfl (Zi (K:=K) rfl (pv 0) rfl) rfl) T.k_History (Jt T) hr (Za (pv 2) Zd)))
   (Zb (Z4 (Zu op_isN (pv 3) pe_non (Qv _)) (Ze (Zj (Zz (Za (pgi rfl T.c_NO_RECORD) Zd)))) Zr)
   (Ze (Zj (Zm Yl (Zz (Za (Zi (K:=K) rfl (pv 3) rfl) (Za (Zi (K:=K) rfl (pv 3) rfl) Zd))) (Zi (K:=K) rfl (pv 3) rfl))))))),?_⟩
  obtain ⟨⟨dxd,od⟩,X,hdM⟩:=id hD
  obtain ⟨es,L,X0,g⟩:=X.ex
  have hX:=X.len
  obtain ⟨dx,sv,ov,os⟩:=X0.ov
  obtain ⟨dxh,oh⟩:=X0.hst.hen.oh
  have ha:Md33.answer (some b) (.get z name)=if Md33.within z 1 64=false then (some b,Md33.only (-8)) else (match b.stand.find name with
    | none=>(some b,Md33.only (-2))
    | some r=>(some b,⟨(r.kind:Int),(r.number:Int)::Md33.ints r.body⟩)):=rfl
  rw[ha] at q
  refine ⟨_,rfl,z,rfl,_,rfl,?_⟩
  have hst:b.stand∈b.stands:=Yb g.good.ne
  have hso:Sorted b.stand.records:=by rw[(g.good.st _ hst).rcs];exact Yp _
  cases hw:Md33.within z 1 64 with
  | false=>
   rw[if_pos hw] at q
   refine iteT ?_
   exact ⟨(show 1≤sizeLine by decide),fun r hr'=>Zt q hD (Zk hr') Zc hr'⟩
  | true=>
   rw[if_neg (by rw[hw];exact Bool.noConfusion)] at q
   refine iteF ?_
   refine ⟨_,rfl,_,_,_,_,_,rfl,od,T.k_Desk,T.na_Desk_volume,rfl,_,_,_,_,_,rfl,ov,T.k_Volume,T.na_Volume_history,rfl,a.h,dxh,_,rfl,oh,rfl,_,rfl,M,a.h,a.en,a.ch,a.sd,nm,b.stands,name,rfl,X0.hst,hn,fun H1 r c s1 hrm hrn hc=>?_,fun H1 s1 hno=>?_⟩
   ·refine ⟨_,rfl,rfl,_,rfl,iteF ?_⟩
    have hfd:b.stand.find name=some r:=(find_iff hso).mpr ⟨hrm,hrn⟩
    rw[hfd] at q
    obtain ⟨ear,dxc,q1,bd,oc,on,ob⟩:=ex_num hc
    refine ⟨_,rfl,_,_,_,_,_,rfl,oc.1,T.k_Change,T.na_Change_kind,rfl,_,rfl,_,_,_,_,_,rfl,oc.1,T.k_Change,T.na_Change_number,rfl,(show 2≤sizeLine by decide),fun p1 n1=>?_⟩
    obtain ⟨s2,e2⟩:=Zp (o:=.lst [nV r.kind,nV r.number]) n1
    generalize upd H1 p1 (.lst [nV r.kind,nV r.number])=G2 at *
    have hfit:=(rec_fits (g.good.st _ hst) hrm).1.2.2.2.2.2
    unfold Md33.BODY at hfit
    refine ⟨_,rfl,_,_,_,_,_,rfl,(s2 _ _ oc.1),T.k_Change,T.na_Change_body,rfl,rcat e2 (s2 _ _ ob.1) (by rw[Zh];show 2+_≤_;rw[Qt];omega) fun p3 n3=>?_⟩
    refine Zt q hD ((s1.trans s2).trans (Zk n3)) ?_ ((s1.trans s2).free n3)
    rw[Zc]
    show some (HO.lst (nV r.kind::nV r.number::nats r.body))=some (HO.lst (V.int r.kind::V.int r.number::zvs (Md33.ints r.body)))
    rw[zvs_nats]
   ·refine ⟨_,rfl,rfl,_,rfl,iteT ?_⟩
    have hfd:b.stand.find name=none:=find_none.mpr hno
    rw[hfd] at q
    exact ⟨(show 1≤sizeLine by decide),fun r hr'=>Zt q hD (s1.trans (Zk hr')) Zc (s1.free hr')⟩
def sp_Desk_answer_version (t:Adr):Sp:=fun vs H Q _=>∃(M:List Addr) (a:VA) (d nm:Addr) (b:Md33.Book) (x z:Int) (name:List Nat),vs=[.ref d,.int x,.int z,.ref nm]∧DeskO t M H d a (some b)∧H nm=some (.lst (nats name))∧DPost t M H d a (Md33.answer (some b) (.version x z name)) Q
theorem ok_Desk_answer_version (T:Txt K mg t):OkM P w K mg base 3 t.C_Desk "answer_version" ["self","place","name_length","name"] (sp_Desk_answer_version t):=by
 refine okM T.d_Desk_answer_version Y9 (fun vs H Q E h=>?_) (fun f cdv A outer s H vs Q E hr h=>?_)
 ·obtain ⟨M,a,d,nm,b,x,z,name,rfl,hD,hn,q⟩:=h
  rfl
 ·obtain ⟨M,a,d,nm,b,x,z,name,rfl,hD,hn,q⟩:=h
  refine ⟨_,(Zb (Z4 (PW.pt (pw_or (Zu op_lt (pv 1) Zf (Qv _)) (pw_or1 (Xa (Ji (pf (Yz T) hr (Za (pv 2) Zd))))))) (Ze (Zj (Zz (Za (pgi rfl T.c_OUT_OF_RANGE) Zd)))) Zr)
   (Zb (Zo (i:=4) Y9.nd rfl (Or.inl rfl) (pm (Zi (K:=K) rfl (Zi (K:=K) rfl (pv 0) rfl) rfl) T.k_History (ok_History_versions T) hr (Za (pv 3) Zd)))
   (Zb (Z4 (Zu op_ge (pv 1) (Zs (Zq (K:=K) rfl) rfl T.n_len PySem.boot_len (Za (pv 4) Zd)) (Qv _)) (Ze (Zj (Zz (Za (pgi rfl T.c_NO_RECORD) Zd)))) Zr)
   (Zb (Zo (i:=5) Y9.nd rfl (Or.inl rfl) (Zx (Zl (K:=K) rfl) (pv 4) (pv 1) (fun _ _=>rfl)))
   (Ze (Zj (Zm Yl (Zz (Za (Zs (Zq (K:=K) rfl) rfl T.n_len PySem.boot_len (Za (pv 4) Zd)) (Za (Zi (K:=K) rfl (pv 5) rfl) (Za (Zi (K:=K) rfl (pv 5) rfl) Zd)))) (Zi (K:=K) rfl (pv 5) rfl)))))))),?_⟩
  obtain ⟨⟨dxd,od⟩,X,hdM⟩:=id hD
  obtain ⟨es,L,X0,g⟩:=X.ex
  have hX:=X.len
  obtain ⟨f1,f2,f3⟩:=g.few hX
  obtain ⟨dx,sv,ov,os⟩:=X0.ov
  obtain ⟨dxh,oh⟩:=X0.hst.hen.oh
  have ha:Md33.answer (some b) (.version x z name)=if x<0∨Md33.within z 1 64=false then (some b,Md33.only (-8)) else (match (Md33.versions b.stand name)[x.toNat]? with
     | none=>(some b,Md33.only (-2))
     | some y=>(some b,⟨((Md33.versions b.stand name).length:Int),(y.1:Int)::(y.2.1:Int)::Md33.ints y.2.2⟩)):=rfl
  rw[ha] at q
  have hst:b.stand∈b.stands:=Yb g.good.ne
  refine ⟨_,rfl,_,_,rfl,rfl,_,rfl,ite2 (fun h=>?_) fun h=>?_⟩
  ·rw[if_pos (.inl (of_decide_eq_true h))] at q
   refine iteT ?_
   exact ⟨(show 1≤sizeLine by decide),fun r hr'=>Zt q hD (Zk hr') Zc hr'⟩
  have h0:¬ x<0:=fun z=>h (decide_eq_true z)
  refine ⟨_,rfl,z,rfl,_,rfl,?_⟩
  cases hw:Md33.within z 1 64 with
  | false=>
   rw[if_pos (.inr hw)] at q
   refine iteT ?_
   exact ⟨(show 1≤sizeLine by decide),fun r hr'=>Zt q hD (Zk hr') Zc hr'⟩
  | true=>
   rw[if_neg (by rw[hw];rintro (z|z);exact h0 z;cases z)] at q
   refine iteF ?_
   have hpd:∀y∈b.stand.way,isPD y.2=true:=fun y hy=>by
    obtain ⟨i,hi,e⟩:=List.getElem_of_mem hy
    exact (g.valid _ hst i y.1 y.2 (by rw[List.getElem?_eq_getElem hi,e])).1
   refine ⟨_,rfl,_,_,_,_,_,rfl,od,T.k_Desk,T.na_Desk_volume,rfl,_,_,_,_,_,rfl,ov,T.k_Volume,T.na_Volume_history,rfl,a.h,dxh,_,rfl,oh,rfl,_,rfl,M,a.h,a.en,a.ch,a.sd,nm,b.stands,name,rfl,X0.hst,hn,by omega,hpd,fun p1 H1 cs s1 n1 e1 hv=>?_⟩
   have hv:VL t M H1 name cs (Md33.versions b.stand name):=hv
   have hcl:=Paired.length hv
   have ex:x=((x.toNat:Nat):Int):=by omega
   refine ⟨_,rfl,_,rfl,p1,_,rfl,.inl (SqL.of e1),_,_,rfl,rfl,_,rfl,ite2 (fun h2=>?_) fun h2=>?_⟩
   ·have h3:(Md33.versions b.stand name).length≤x.toNat:=by
     have:=of_decide_eq_true h2
     rw[List.length_map,hcl] at this
     omega
    rw[List.getElem?_eq_none h3] at q
    exact ⟨(show 1≤sizeLine by decide),fun r hr'=>Zt q hD (s1.trans (Zk hr')) Zc (s1.free hr')⟩
   ·have h3:x.toNat<cs.length:=by
     refine Nat.lt_of_not_le fun z=>h2 (decide_eq_true ?_)
     rw[List.length_map]
     omega
    obtain ⟨c,hci⟩:∃c,cs[x.toNat]?=some c:=⟨_,List.getElem?_eq_getElem h3⟩
    obtain ⟨y,hy,ear,dxc,q1,bd,oc,on,ob⟩:=Xr hv hci
    rw[hy] at q
    have hat:atI (cs.map V.ref) ((x.toNat:Nat):Int)=some (V.ref c):=atI_nat (by rw[List.getElem?_map,hci];rfl)
    rw[← ex] at hat
    refine ⟨_,rfl,_,rfl,p1,_,_,_,rfl,rfl,SqL.of e1,hat,?_⟩
    refine ⟨_,rfl,p1,_,rfl,.inl (SqL.of e1),_,rfl,_,_,_,_,_,rfl,oc.1,T.k_Change,T.na_Change_kind,rfl,_,rfl,_,_,_,_,_,rfl,oc.1,T.k_Change,T.na_Change_number,rfl,(show 3≤sizeLine by decide),fun p2 n2=>?_⟩
    rw[List.length_map,hcl]
    obtain ⟨s2,e2⟩:=Zp (o:=.lst [V.int (Md33.versions b.stand name).length,nV y.1,nV y.2.1]) n2
    have eG:upd H1 p2 (.lst [V.int (Md33.versions b.stand name).length,nV (entKind (.put y.1 name y.2.2)),nV y.2.1])=upd H1 p2 (.lst [V.int (Md33.versions b.stand name).length,nV y.1,nV y.2.1]):=rfl
    rw[eG]
    generalize upd H1 p2 (.lst [V.int (Md33.versions b.stand name).length,nV y.1,nV y.2.1])=G2 at *
    have hbl:y.2.2.length≤65536:=by
     have hm:y∈Md33.versions b.stand name:=List.mem_of_getElem? hy
     rw[versions_eq] at hm
     obtain ⟨u,hu,hvf⟩:=List.mem_filterMap.mp hm
     have hfit:=((g.good.st _ hst).ents u (List.mem_reverse.mp hu)).2.2.1
     obtain ⟨n,e⟩:=u
     cases e with
     | put kind nm' body=>
      have hvf':(if nm'=name then some (kind,n,body) else none)=some y:=hvf
      split at hvf'
      ·cases hvf'
       have:=hfit.2.2.2.2.2
       unfold Md33.BODY at this
       exact this
      ·cases hvf'
     | drop nm'=>cases hvf
     | back k=>cases hvf
    refine ⟨_,rfl,_,_,_,_,_,rfl,(s2 _ _ oc.1),T.k_Change,T.na_Change_body,rfl,rcat e2 (s2 _ _ ob.1) (by rw[Zh];show 3+y.2.2.length≤_;rw[Qt];omega) fun p3 n3=>?_⟩
    refine Zt q hD ((s1.trans s2).trans (Zk n3)) ?_ ((s1.trans s2).free n3)
    rw[Zc]
    show some (HO.lst (V.int (Md33.versions b.stand name).length::nV y.1::nV y.2.1::nats y.2.2))=some (HO.lst (V.int (Md33.versions b.stand name).length::V.int y.1::V.int y.2.1::zvs (Md33.ints y.2.2)))
    rw[zvs_nats]
end
def nameRow (r:Md33.Record):List Int:=[(r.kind:Int),(r.number:Int),(r.body.length:Int),(r.name.length:Int)]++Md33.ints r.name
theorem nameRow_len (r:Md33.Record):(nameRow r).length=4+r.name.length:=by
 unfold nameRow
 rw[List.length_append]
 show 4+(Md33.ints r.name).length=_
 unfold Md33.ints
 rw[List.length_map]
theorem flat_len {l:List Md33.Record} {m:Nat} (h:∀r∈l,r.name.length≤m):(l.flatMap nameRow).length≤(4+m)*l.length:=by
 induction l with
 | nil=>exact Nat.zero_le _
 | cons r l ih=>
  rw[List.flatMap_cons,List.length_append,nameRow_len,List.length_cons,Nat.mul_succ]
  have h1:=h r (by simp)
  have h2:=ih fun x hx=>h x (List.mem_cons_of_mem _ hx)
  omega
theorem for_zip {K:PySem.W.Frag} {a b:Addr} {xs ys:List V} {g:TG} {tb:TS} {D:Ends} {σ:St} {H:Hp} (Pv:Nat→St→Hp→Prop) (h0:Pv 0 σ H) (hl:∀i σ H,Pv i σ H→SqL K H a xs∧SqL K H b ys)
  (hs:∀i x y σ H T,xs[i]?=some x→ys[i]?=some y→Pv i σ H→H T=none→g (.ref T) σ (upd H T (.tup [x,y])) fun σ2 H2=>tb { D with nx:=Pv (i+1),ct:=Pv (i+1),bk:=D.nx } σ2 H2) (hd:∀σ H,Pv (min xs.length ys.length) σ H→D.nx σ H):
  ∃W:Nat→Nat→St→Hp→Prop,(∃m,W 0 m σ H)∧∀i m σ H,W i m σ H→
   ((Itz K a b).stop i H∧D.nx σ H)∨((Itz K a b).go i H∧∃N:St→Hp→Prop,(∀σ' H',N σ' H'→∃m',m'<m∧W (i+1) m' σ' H')∧∀x H',(Itz K a b).yld i H x H'→g x σ H' fun σ2 H2=>tb { D with nx:=N,ct:=N,bk:=D.nx } σ2 H2):=by
 refine ⟨fun i m σ H=>m=min xs.length ys.length-i∧i≤min xs.length ys.length∧Pv i σ H,⟨min xs.length ys.length,by simp,Nat.zero_le _,h0⟩,?_⟩
 rintro i m σ H ⟨rfl,hi,p⟩
 obtain ⟨q1,q2⟩:=hl i σ H p
 by_cases hlt:i<min xs.length ys.length
 ·refine .inr ⟨⟨xs,ys,xs[i]'(by omega),ys[i]'(by omega),q1,q2,by rw[List.getElem?_eq_getElem],by rw[List.getElem?_eq_getElem]⟩,Pv (i+1),fun σ' H' p'=>⟨min xs.length ys.length-(i+1),by omega,rfl,hlt,p'⟩,fun x H' y=>?_⟩
  obtain ⟨T,x',y',rfl,hT,rfl,h1,h2⟩:=y
  exact hs i x' y' σ _ T (h1 xs q1) (h2 ys q2) p hT
 ·have e:i=min xs.length ys.length:=by omega
  subst e
  exact .inl ⟨⟨xs,ys,q1,q2,by omega⟩,hd σ H p⟩
theorem common_stop:∀{a b:List Nat} {i:Nat},(∀j,j<i→a[j]?=b[j]?∧j<a.length)→(¬ (i<a.length∧i<b.length)∨a[i]?≠b[i]?)→i≤a.length→i≤b.length→Md33.common a b=i
 | [],[],i,_,_,h,_=>(Nat.le_zero.mp h).symm
 | [],_::_,i,_,_,h,_=>(Nat.le_zero.mp h).symm
 | _::_,[],i,_,_,_,h=>(Nat.le_zero.mp h).symm
 | x::a,y::b,0,_,h,_,_=>by
  unfold Md33.common
  rcases h with h|h
  ·exact absurd ⟨Nat.succ_pos _,Nat.succ_pos _⟩ h
  ·rw[if_neg (fun e=>h (by rw[e];rfl))]
 | x::a,y::b,i+1,hj,h,ha,hb=>by
  have h0:=(hj 0 (Nat.succ_pos _)).1
  have e:x=y:=Option.some.inj h0
  have ih:=common_stop (a:=a) (b:=b) (i:=i) (fun j hji=>⟨(hj (j+1) (Nat.succ_lt_succ hji)).1,by have:=(hj (j+1) (Nat.succ_lt_succ hji)).2;simpa using this⟩)
   (h.imp (fun h z=>h ⟨by simpa using z.1,by simpa using z.2⟩) id) (by simpa using ha) (by simpa using hb)
  unfold Md33.common
  rw[if_pos e,ih]
section
variable {P:Program} {w:World} {K:PySem.W.Frag} {mg:Str→Option Value} {base:Heap} {t:Adr}
def sp_Desk_answer_names (t:Adr):Sp:=fun vs H Q _=>∃(M:List Addr) (a:VA) (d:Addr) (b:Md33.Book) (x y:Int),vs=[.ref d,.int x,.int y]∧DeskO t M H d a (some b)∧DPost t M H d a (Md33.answer (some b) (.names x y)) Q
theorem ok_Desk_answer_names (T:Txt K mg t):OkM P w K mg base 2 t.C_Desk "answer_names" ["self","begin","most"] (sp_Desk_answer_names t):=by
 refine okM T.d_Desk_answer_names Yy (fun vs H Q E h=>?_) (fun f cdv A outer s H vs Q E hr h=>?_)
 ·obtain ⟨M,a,d,b,x,y,rfl,hD,q⟩:=h
  rfl
 ·obtain ⟨M,a,d,b,x,y,rfl,hD,q⟩:=h
  refine ⟨_,(Zb (Z4 (PW.pt (pw_or (Zu op_lt (pv 1) Zf (Qv _)) (pw_or1 (Xa (X9 Xm Xm Zf (pv 2) (pgi rfl T.c_MOST_NAMES)))))) (Ze (Zj (Zz (Za (pgi rfl T.c_OUT_OF_RANGE) Zd)))) Zr)
   (Zb (Zo (i:=3) Yy.nd rfl (Or.inl rfl) (pm0 (Zi (K:=K) rfl (Zi (K:=K) rfl (pv 0) rfl) rfl) T.k_History (ok_History_records T) hr))
   (Zb (Zo (i:=4) Yy.nd rfl (Or.inl rfl) (Zz (Za (Zs (Zq (K:=K) rfl) rfl T.n_len PySem.boot_len (Za (pv 3) Zd)) Zd)))
   (Zb (Y2 PassesOwn.never rfl (J8 (Z1 (Z0 (K:=K) rfl) (pv 3) (Zv (pv 1)) (Zv (Zm Z5 (pv 1) (pv 2))))) (Z3 (i:=5) Yy.nd rfl (Or.inl rfl)) (Zb (Z6 (Yu (K:=K) rfl PySem.F.plainAttrs_list PySem.F.slot_list_extend PySem.F.type_list_extend J2 (pv 4) (Za (Zz (Za (Zi (K:=K) rfl (pv 5) rfl) (Za (Zi (K:=K) rfl (pv 5) rfl) (Za (Zs (Zq (K:=K) rfl) rfl T.n_len PySem.boot_len (Za (Zi (K:=K) rfl (pv 5) rfl) Zd)) (Za (Zs (Zq (K:=K) rfl) rfl T.n_len PySem.boot_len (Za (Zi (K:=K) rfl (pv 5) rfl) Zd)) Zd))))) Zd)))
   (Ze (Z6 (Yu (K:=K) rfl PySem.F.plainAttrs_list PySem.F.slot_list_extend PySem.F.type_list_extend (mt_extendT (K:=K) rfl) (pv 4) (Za (Zi (K:=K) rfl (pv 5) rfl) Zd))))))
   (Ze (Zj (pv 4))))))),?_⟩
  obtain ⟨⟨dxd,od⟩,X,hdM⟩:=id hD
  obtain ⟨es,L,X0,g⟩:=X.ex
  have hX:=X.len
  obtain ⟨f1,f2,f3⟩:=g.few hX
  obtain ⟨dx,sv,ov,os⟩:=X0.ov
  obtain ⟨dxh,oh⟩:=X0.hst.hen.oh
  have ha:Md33.answer (some b) (.names x y)=if x<0∨Md33.within y 0 4096=false then (some b,Md33.only (-8)) else (some b,⟨(b.stand.records.length:Int),((b.stand.records.drop x.toNat).take y.toNat).flatMap nameRow⟩):=rfl
  rw[ha] at q
  refine ⟨_,rfl,_,_,rfl,rfl,_,rfl,ite2 (fun h=>?_) fun h=>?_⟩
  ·rw[if_pos (.inl (of_decide_eq_true h))] at q
   refine iteT ?_
   exact ⟨(show 1≤sizeLine by decide),fun r hr'=>Zt q hD (Zk hr') Zc hr'⟩
  have h0:¬ x<0:=fun z=>h (decide_eq_true z)
  refine ⟨_,rfl,rchain ⟨_,rfl,?_⟩⟩
  have hst:b.stand∈b.stands:=Yb g.good.ne
  have hso:Sorted b.stand.records:=by rw[(g.good.st _ hst).rcs];exact Yp _
  have hfit:∀r∈b.stand.records,(Md33.Entry.put r.kind r.name r.body).fits:=fun r hrm=>(rec_fits (g.good.st _ hst) hrm).1
  have hne:∀r∈b.stand.records,r.name≠[]:=fun r hrm=>by
   have h1:=(hfit r hrm).2.2.2.1
   intro e
   rw[e] at h1
   exact absurd h1 (by decide)
  have hrl:b.stand.records.length≤40000:=f3 _ hst
  cases hw:Md33.within y 0 4096 with
  | false=>
   rw[if_pos (.inr hw)] at q
   refine iteT ?_
   exact ⟨(show 1≤sizeLine by decide),fun r hr'=>Zt q hD (Zk hr') Zc hr'⟩
  | true=>
   rw[if_neg (by rw[hw];rintro (z|z);exact h0 z;cases z)] at q
   have hy:0≤y∧y≤4096:=by
    unfold Md33.within at hw
    simpa using hw
   refine iteF ?_
   refine ⟨_,rfl,_,_,_,_,_,rfl,od,T.k_Desk,T.na_Desk_volume,rfl,_,_,_,_,_,rfl,ov,T.k_Volume,T.na_Volume_history,rfl,a.h,dxh,_,rfl,oh,rfl,M,a.h,a.en,a.ch,a.sd,b.stands,rfl,X0.hst,hso,hne,by show b.stand.records.length≤_;omega,fun p1 H1 cs s1 n1 e1 hc=>?_⟩
   have hc:Paired (fun c r=>CR t M H c r) cs b.stand.records:=hc
   have hcl:=Paired.length hc
   refine ⟨_,rfl,p1,_,rfl,.inl (SqL.of e1),(show 1≤sizeLine by decide),fun p2 n2=>?_⟩
   rw[List.length_map,hcl]
   obtain ⟨s2,e2⟩:=Zp (o:=.lst [V.int b.stand.records.length]) n2
   generalize upd H1 p2 (.lst [V.int b.stand.records.length])=G2 at *
   refine ⟨_,rfl,_,rfl,_,rfl,_,rfl,_,rfl,_,_,rfl,rfl,_,rfl,p1,_,rfl,SqL.of (s2 _ _ e1),fun p3 n3=>?_⟩
   have ecut:cutV (cs.map V.ref) (some x) (some (x+y))=((cs.drop x.toNat).take y.toNat).map V.ref:=by
    have ex:x=((x.toNat:Nat):Int):=by omega
    have ey:x+y=((x.toNat+y.toNat:Nat):Int):=by omega
    rw[ey,ex]
    unfold cutV
    rw[HT.sIx_nat,HT.sIx_nat,List.length_map,Int.toNat_natCast]
    rw[← List.map_drop,← List.map_take]
    congr 1
    by_cases h1:x.toNat≤cs.length
    ·rw[Nat.min_eq_left h1]
     by_cases h2:x.toNat+y.toNat≤cs.length
     ·rw[Nat.min_eq_left h2,Nat.add_sub_cancel_left]
     ·rw[Nat.min_eq_right (by omega),List.take_of_length_le (by rw[List.length_drop];exact Nat.le_refl _),List.take_of_length_le (by rw[List.length_drop];omega)]
    ·have e:min x.toNat cs.length=cs.length:=by omega
     rw[e,List.drop_of_length_le (Nat.le_refl _),List.drop_of_length_le (by omega)]
     simp
   rw[ecut]
   obtain ⟨s3,e3⟩:=Zp (o:=.lst (((cs.drop x.toNat).take y.toNat).map V.ref)) n3
   generalize upd G2 p3 (.lst (((cs.drop x.toNat).take y.toNat).map V.ref))=G3 at *
   have S3:=(s1.trans s2).trans s3
   have hap:H p2=none:=s1.free n2
   have hp23:p3≠p2:=fun z=>by rw[z,e2] at n3;cases n3
   have hrs:∀r∈(b.stand.records.drop x.toNat).take y.toNat,r.name.length≤64:=fun r hrm=>by
    have:=(hfit r (List.mem_of_mem_drop (List.mem_of_mem_take hrm))).2.2.2.2.1
    unfold Md33.NAME at this
    exact this
   have hrsl:((b.stand.records.drop x.toNat).take y.toNat).length≤4096:=by rw[List.length_take];omega
   refine ⟨p3,rfl,⟨_,SqL.of e3⟩,for_list (xs:=((cs.drop x.toNat).take y.toNat).map V.ref) (fun i σ H4=>∃v5,σ=[some (.ref d),some (.int x),some (.int y),some (.ref p1),some (.ref p2),v5]∧Qr [p2] G3 H4∧H4 p2=some (.lst (zvs ((b.stand.records.length:Int)::(((b.stand.records.drop x.toNat).take y.toNat).take i).flatMap nameRow)))) ⟨none,rfl,Qr.refl _ _,s3 _ _ e2⟩ (fun i σ H4 _ ⟨_,_,K4,_⟩=>SqL.of (K4 _ _ (by simpa using hp23) e3)) ?_ ?_⟩
   ·rintro i v σ H4 hx ⟨v5,rfl,K4,h4⟩
    have hi:i<((cs.drop x.toNat).take y.toNat).length:=by
     have:=(List.getElem?_eq_some_iff.mp hx).1
     rwa [List.length_map] at this
    have hi2:i<y.toNat:=by rw[List.length_take] at hi;omega
    rw[List.getElem?_map,List.getElem?_take_of_lt hi2,List.getElem?_drop] at hx
    cases hci:cs[x.toNat+i]? with
    | none=>rw[hci] at hx;cases hx
    | some c=>
     rw[hci] at hx
     have hx':V.ref c=v:=Option.some.inj hx
     subst hx'
     obtain ⟨r,hri,hcr⟩:=Xr hc hci
     obtain ⟨ear,dxc,q1,bd,oc,on,ob⟩:=ex_num hcr
     have hget:((b.stand.records.drop x.toNat).take y.toNat)[i]?=some r:=by rw[List.getElem?_take_of_lt hi2,List.getElem?_drop];exact hri
     have ne2:∀{z:Addr} {o:HO},H z=some o→z≠p2:=fun {z o} e=>Zg e hap
     have oc4:=K4 _ _ (by simpa using ne2 oc.1) (S3 _ _ oc.1)
     have on4:=K4 _ _ (by simpa using ne2 on.1) (S3 _ _ on.1)
     have ob4:=K4 _ _ (by simpa using ne2 ob.1) (S3 _ _ ob.1)
     have hfl:=flat_len (l:=((b.stand.records.drop x.toNat).take y.toNat).take i) (m:=64) fun r' hr'=>hrs r' (List.mem_of_mem_take hr')
     have hil:(((b.stand.records.drop x.toNat).take y.toNat).take i).length≤4096:=by rw[List.length_take];omega
     have hnl:=hrs r (List.mem_of_getElem? hget)
     refine ⟨_,rfl,Yg h4,_,rfl,_,_,_,_,_,rfl,oc4,T.k_Change,T.na_Change_kind,rfl,_,rfl,_,_,_,_,_,rfl,oc4,T.k_Change,T.na_Change_number,rfl,_,rfl,_,_,_,_,_,rfl,oc4,T.k_Change,T.na_Change_body,rfl,bd,_,rfl,.inl (SqL.of ob4),_,rfl,_,_,_,_,_,rfl,oc4,T.k_Change,T.na_Change_name,rfl,q1,_,rfl,.inr (SqT.of on4),(show 4≤sizeLine by decide),fun p5 n5=>?_⟩
     rw[Zh,Zh]
     have s5:=Zk (o:=.lst [nV r.kind,nV r.number,V.int r.body.length,V.int r.name.length]) n5
     have e5:(upd H4 p5 (.lst [nV r.kind,nV r.number,V.int r.body.length,V.int r.name.length])) p5=some (.lst [nV r.kind,nV r.number,V.int r.body.length,V.int r.name.length]):=Zc
     generalize upd H4 p5 (.lst [nV r.kind,nV r.number,V.int r.body.length,V.int r.name.length])=G5 at *
     have hlen1:(zvs ((b.stand.records.length:Int)::(((b.stand.records.drop x.toNat).take y.toNat).take i).flatMap nameRow)).length≤1+68*4096:=by
      rw[List.length_map,List.length_cons]
      have:(4+64)*(((b.stand.records.drop x.toNat).take y.toNat).take i).length≤68*4096:=Nat.mul_le_mul_left 68 hil
      omega
     refine ⟨p2,p5,_,_,rfl,rfl,s5 _ _ h4,e5,by show _+4≤sizeLine;rw[Qt];omega,?_⟩
     have k6:Qr [p2] G5 (upd G5 p2 (.lst (zvs ((b.stand.records.length:Int)::(((b.stand.records.drop x.toNat).take y.toNat).take i).flatMap nameRow)++[nV r.kind,nV r.number,V.int r.body.length,V.int r.name.length]))):=Qr.upd (by simp)
     have h6:(upd G5 p2 (.lst (zvs ((b.stand.records.length:Int)::(((b.stand.records.drop x.toNat).take y.toNat).take i).flatMap nameRow)++[nV r.kind,nV r.number,V.int r.body.length,V.int r.name.length]))) p2=some (.lst (zvs ((b.stand.records.length:Int)::(((b.stand.records.drop x.toNat).take y.toNat).take i).flatMap nameRow)++[nV r.kind,nV r.number,V.int r.body.length,V.int r.name.length])):=Zc
     generalize upd G5 p2 (.lst (zvs ((b.stand.records.length:Int)::(((b.stand.records.drop x.toNat).take y.toNat).take i).flatMap nameRow)++[nV r.kind,nV r.number,V.int r.body.length,V.int r.name.length]))=G6 at *
     have oc6:=k6 _ _ (by simpa using ne2 oc.1) (s5 _ _ oc4)
     have on6:=k6 _ _ (by simpa using ne2 on.1) (s5 _ _ on4)
     refine ⟨_,rfl,Yg h6,_,rfl,_,_,_,_,_,rfl,oc6,T.k_Change,T.na_Change_name,rfl,p2,q1,_,_,rfl,rfl,h6,SqT.of on6,by rw[List.length_append,Zh];show _+4+_≤sizeLine;rw[Qt];omega,?_⟩
     refine ⟨_,rfl,(K4.trans (.of_same s5)).trans (k6.trans (Qr.upd (by simp))),?_⟩
     rw[Zc,List.take_add_one,hget,List.flatMap_append]
     show some (HO.lst _)=some (HO.lst (zvs ((b.stand.records.length:Int)::(_++(nameRow r++[])))))
     rw[List.append_nil,← List.cons_append]
     unfold nameRow
     unfold zvs
     rw[List.map_append,List.map_append,List.append_assoc]
     congr 3
     have:=zvs_nats r.name
     unfold zvs at this
     rw[this];rfl
   ·rintro σ H4 ⟨v5,rfl,K4,h4⟩
    have hlc:(((cs.drop x.toNat).take y.toNat).map V.ref).length=((b.stand.records.drop x.toNat).take y.toNat).length:=by
     rw[List.length_map,List.length_take,List.length_take,List.length_drop,List.length_drop,hcl]
    rw[hlc,List.take_of_length_le (Nat.le_refl _)] at h4
    refine ⟨_,rfl,?_⟩
    have SH:Same H H4:=fun z o e=>K4 z o (by simpa using Zg e hap) (S3 _ _ e)
    exact Zt q hD SH h4 hap
def sp_common_length :Sp:=fun vs H Q _=>∃(p d:Addr) (l m:List Nat),vs=[.ref p,.ref d]∧H p=some (.lst (nats l))∧H d=some (.lst (nats m))∧∀H',Same H H'→Q (nV (Md33.common l m)) H'
theorem ok_common_length (T:Txt K mg t):OkF P w K mg base 1 "common_length" ["left","right"] (sp_common_length ):=by
 refine okF T.d_common_length Y5 (fun vs H Q E h=>?_) (fun f cdv A outer s H vs Q E hr h=>?_)
 ·obtain ⟨p,d,l,m,rfl,hp,hd,q⟩:=h
  rfl
 ·obtain ⟨p,d,l,m,rfl,hp,hd,q⟩:=h
  refine ⟨_,(Zb (Zo (i:=2) Y5.nd rfl (Or.inl rfl) Zf)
   (Zb (Y2 PassesOwn.never rfl (pi_zip rfl T.n_zip (Za (pv 0) (Za (pv 1) Zd))) (pg_tupK (K:=K) (n:=2) rfl rfl (Qg (Z3 (i:=3) Y5.nd rfl (Or.inl rfl)) (Qg (Z3 (i:=4) Y5.nd rfl (Or.inl rfl)) pgs_nil))) (Zb (Z4 (Zu op_ne (pv 3) (pv 4) (Qv _)) (Ze ps_break) Zr)
   (Ze (ps_aug (i:=2) Y5.nd rfl (Or.inl rfl) Zf ip_add))))
   (Ze (Zj (pv 2))))),?_⟩
  refine ⟨_,rfl,_,rfl,p,d,_,_,rfl,SqL.of hp,SqL.of hd,for_zip (xs:=nats l) (ys:=nats m) (fun i σ H2=>Same H H2∧i≤l.length∧i≤m.length∧(∀j,j<i→l[j]?=m[j]?∧j<l.length)∧∃v3 v4,σ=[some (.ref p),some (.ref d),some (.int (i:Nat)),v3,v4]) ⟨Same.refl _,Nat.zero_le _,Nat.zero_le _,(fun j hj=>absurd hj (Nat.not_lt_zero _)),none,none,rfl⟩ (fun i σ H2 ⟨s2,_⟩=>⟨SqL.of (s2 _ _ hp),SqL.of (s2 _ _ hd)⟩) ?_ ?_⟩
  ·rintro i x y σ H2 T' hx hy ⟨s2,hi1,hi2,hj,v3,v4,rfl⟩ hT
   obtain ⟨h1,rfl⟩:=Xx hx
   obtain ⟨h2,rfl⟩:=Xx hy
   have s3:=Zk (o:=.tup [nV (l.getD i 0),nV (m.getD i 0)]) hT
   refine ⟨T',_,rfl,SqT.of Zc,rfl,_,_,rfl,_,_,rfl,rfl,?_⟩
   refine ⟨_,rfl,_,rfl,rfl,_,rfl,ite2 (fun h=>?_) fun h=>?_⟩
   ·refine ⟨_,rfl,?_⟩
    have hne:l[i]?≠m[i]?:=fun e=>by
     rw[Jd h1,Jd h2] at e
     have e':=Option.some.inj e
     rw[e'] at h
     simp at h
    have:=q _ (s2.trans s3)
    rw[common_stop hj (.inr hne) hi1 hi2] at this
    exact this
   ·have he:l.getD i 0=m.getD i 0:=by
     by_cases z:l.getD i 0=m.getD i 0
     ·exact z
     ·refine absurd ?_ h
      have:¬ (nV (l.getD i 0)=nV (m.getD i 0)):=fun e=>z (Int.ofNat.inj (V.int.inj e))
      simp only[this,decide_false,Bool.not_false]
    refine ⟨_,rfl,_,_,rfl,rfl,s2.trans s3,h1,h2,fun j hj'=>?_,_,_,rfl⟩
    by_cases e:j=i
    ·subst e
     exact ⟨by rw[Jd h1,Jd h2,he],h1⟩
    ·exact hj j (by omega)
  ·rintro σ H2 ⟨s2,hi1,hi2,hj,v3,v4,rfl⟩
   rw[Zh,Zh] at hj hi1 hi2
   refine ⟨_,rfl,?_⟩
   have:=q _ s2
   rw[common_stop hj (.inl (by omega)) hi1 hi2] at this
   rw[Zh,Zh]
   exact this
def sp_Desk_answer_alike (t:Adr):Sp:=fun vs H Q _=>∃(M:List Addr) (a:VA) (d p:Addr) (b:Md33.Book) (z:Int) (l:List Nat),vs=[.ref d,.int z,.ref p]∧DeskO t M H d a (some b)∧H p=some (.lst (nats l))∧DPost t M H d a (Md33.answer (some b) (.alike z l)) Q
theorem ok_Desk_answer_alike (T:Txt K mg t):OkM P w K mg base 2 t.C_Desk "answer_alike" ["self","length","data"] (sp_Desk_answer_alike t):=by
 refine okM T.d_Desk_answer_alike Qb (fun vs H Q E h=>?_) (fun f cdv A outer s H vs Q E hr h=>?_)
 ·obtain ⟨M,a,d,p,b,z,l,rfl,hD,hp,q⟩:=h
  rfl
 ·obtain ⟨M,a,d,p,b,z,l,rfl,hD,hp,q⟩:=h
  refine ⟨_,(Zb (Z4 (Xa (X9 Xm Xm Zf (pv 1) (pgi rfl T.c_MOST_BOOK_BYTES))) (Ze (Zj (Zz (Za (pgi rfl T.c_OUT_OF_RANGE) Zd)))) Zr)
   (Zb (Zo (i:=3) Qb.nd rfl (Or.inl rfl) (pf (ok_common_length T) hr (Za (Zi (K:=K) rfl (Zi (K:=K) rfl (pv 0) rfl) rfl) (Za (pv 2) Zd))))
   (Ze (Zj (Zz (Za (pv 3) (Za (pm (Zi (K:=K) rfl (pv 0) rfl) T.k_Volume (ok_Volume_entries_within T) hr (Za (pv 3) Zd)) Zd))))))),?_⟩
  obtain ⟨⟨dxd,od⟩,X,hdM⟩:=id hD
  obtain ⟨es,L,X0,g⟩:=X.ex
  have hX:=X.len
  obtain ⟨f1,f2,f3⟩:=g.few hX
  obtain ⟨dx,sv,ov,os⟩:=X0.ov
  have ha:Md33.answer (some b) (.alike z l)=if Md33.within z 0 1048576=false then (some b,Md33.only (-8)) else (some b,⟨(Md33.common b.bytes l:Int),[(((Md33.ends (b.count+1) 44 (b.bytes.drop 44)).filter fun (x:Nat)=>decide (x≤Md33.common b.bytes l)).length:Int)]⟩):=rfl
  rw[ha] at q
  refine ⟨_,rfl,rchain ⟨_,rfl,?_⟩⟩
  cases hw:Md33.within z 0 1048576 with
  | false=>
   rw[if_pos hw] at q
   refine iteT ?_
   exact ⟨(show 1≤sizeLine by decide),fun r hr'=>Zt q hD (Zk hr') Zc hr'⟩
  | true=>
   rw[if_neg (by rw[hw];exact Bool.noConfusion)] at q
   refine iteF ?_
   refine ⟨_,rfl,_,_,_,_,_,rfl,od,T.k_Desk,T.na_Desk_volume,rfl,_,_,_,_,_,rfl,ov,T.k_Volume,T.na_Volume_content,rfl,_,rfl,a.co,p,b.bytes,l,rfl,X0.oc,hp,fun H1 s1=>?_⟩
   have hLl:L.length≤1000000:=by rw[g.runs.len,g.cnt];omega
   refine ⟨_,rfl,_,rfl,_,_,_,_,_,rfl,(s1 _ _ od),T.k_Desk,T.na_Desk_volume,rfl,a.v,dx,_,rfl,s1 _ _ ov,rfl,_,rfl,M,a,b.key,b.bytes,L,b.stands,_,Md33.common b.bytes l,rfl,rfl,X0.same s1,hLl,fun H2 s2=>?_⟩
   refine ⟨(show 2≤sizeLine by decide),fun r hr'=>?_⟩
   have hen:L.drop 1=Md33.ends (b.count+1) 44 (b.bytes.drop 44):=by
    have:=g.runs.ends
    rw[g.cnt] at this
    rw[this];rfl
   refine Zt q hD ((s1.trans s2).trans (Zk hr')) ?_ ((s1.trans s2).free hr')
   rw[Zc,hen]
   rfl
end
theorem Vol0.out {t:Adr} {M:List Addr} {H H':Hp} {a:VA} {key:Option (List Nat)} {bytes L:List Nat} {sts:List Md33.Stand} (x:Vol0 t M H a key bytes L sts) {d C dxd:Addr} {f:Str×V} (hd:H d=some (.ins C dxd [f])) (k:Qr [d] H H') (hn:d∉M):Vol0 t M H' a key bytes L sts:=by
 have inM:∀{p:Addr} {o:HO},p∈M→H p=some o→H' p=some o:=fun {p o} hp ho=>k p o (fun z=>hn (by rw[← List.mem_singleton.mp z];exact hp)) ho
 have ofL:∀{p:Addr} {o:HO},Off M H p o→o≠.ins C dxd [f]→Off M H' p o:=fun {p o} h hne=>⟨k p o (fun z=>hne (by have:=h.1;rw[List.mem_singleton.mp z,hd] at this;exact (Option.some.inj this).symm)) h.1,h.2⟩
 have ofC:∀{c:Addr} {n ear:Nat} {e:Md33.Entry},Chg t M H c n ear e→Chg t M H' c n ear e:=fun {c n ear e} ⟨dx,q,bd,h1,h2,h3⟩=>
  ⟨dx,q,bd,ofL h1 (fun z=>by injection z with _ _ z;exact absurd (congrArg List.length z) (show ¬ (6:Nat)=1 by decide)),ofL h2 (fun z=>by cases z),ofL h3 (fun z=>by cases z)⟩
 obtain ⟨dx,sv,ov,os⟩:=x.ov
 obtain ⟨dxh,oh⟩:=x.hst.hen.oh
 obtain ⟨kvs,o1,o2,o3⟩:=x.hst.hen.oc
 obtain ⟨kv2,p1,p2⟩:=x.hst.os
 have os':SchedO M H' sv key:=by
  cases key with
  | none=>exact os
  | some k'=>
   obtain ⟨sc,e,⟨rs,r1,r2,r3⟩,b⟩:=os
   exact ⟨sc,e,⟨rs,ofL r1 (fun z=>by cases z),r2,fun i y hy=>let ⟨row,u,v⟩:=r3 i y hy;⟨row,u,ofL v (fun z=>by cases z)⟩⟩,b⟩
 refine ⟨x.mv,x.mco,x.mle,⟨dx,sv,inM x.mv ov,os'⟩,inM x.mco x.oc,inM x.mle x.ol,x.n1,x.n2,x.n3,⟨⟨x.hst.hen.mh,x.hst.hen.me,x.hst.hen.mc,x.hst.hen.ms,fun p hp=>?_,⟨dxh,inM x.hst.hen.mh oh⟩,inM x.hst.hen.me x.hst.hen.oe,kvs,inM x.hst.hen.mc o1,o2,fun w hw=>(o3 w hw).mono fun n ear e ⟨u,c,v,d⟩=>⟨u,c,v,ofC d⟩⟩,x.hst.ne,kv2,inM x.hst.hen.ms p1,p2.mono fun c r ⟨ear,d⟩=>⟨ear,ofC d⟩⟩⟩
 cases q:H p with
 | none=>exact absurd q (x.hst.hen.pres p hp)
 | some o=>rw[inM hp q];simp
theorem Vol.out {t:Adr} {M:List Addr} {H H':Hp} {a:VA} {b:Md33.Book} (x:Vol t M H a b) {d C dxd:Addr} {f:Str×V} (hd:H d=some (.ins C dxd [f])) (k:Qr [d] H H') (hn:d∉M):Vol t M H' a b:=by
 obtain ⟨es,L,A,B⟩:=x.ex
 exact ⟨⟨es,L,A.out hd k hn,B⟩,x.len⟩
def keyOf (z:Int) (key:List Nat):Option (List Nat):=if z=1 then some key else none
theorem nKey_keyOf {z:Int} {key:List Nat} (h:Md33.within z 0 1=true):z=(nKey (keyOf z key):Int):=by
 unfold Md33.within at h
 have h':0≤z∧z≤1:=by simpa using h
 unfold keyOf nKey
 by_cases e:z=1
 ·rw[if_pos e];exact e
 ·rw[if_neg e]
  show z=0
  omega
theorem getD_keyOf {z:Int} {key:List Nat} (h:z≠1→key=[]):(keyOf z key).getD []=key:=by
 unfold keyOf
 by_cases e:z=1
 ·rw[if_pos e];rfl
 ·rw[if_neg e,h e];rfl
theorem key_keyOf {z:Int} {key:List Nat} (h:z=1→B16 key):∀k,keyOf z key=some k→B16 k:=by
 intro k e
 unfold keyOf at e
 by_cases hz:z=1
 ·rw[if_pos hz] at e;rw[← Option.some.inj e];exact h hz
 ·rw[if_neg hz] at e;cases e
section
variable {P:Program} {w:World} {K:PySem.W.Frag} {mg:Str→Option Value} {base:Heap} {t:Adr}
def sp_Desk_answer_new (t:Adr):Sp:=fun vs H Q _=>∃(M:List Addr) (a:VA) (d sa ka:Addr) (s:Option Md33.Book) (z:Int) (salt key:List Nat),vs=[.ref d,.int z,.ref sa,.ref ka]∧DeskO t M H d a s∧H sa=some (.lst (nats salt))∧H ka=some (.lst (nats key))∧B16 salt∧(z=1→B16 key)∧(z≠1→key=[])∧DPost t M H d a (Md33.answer s (.new_ z salt key)) Q
theorem ok_Desk_answer_new (T:Txt K mg t):OkM P w K mg base 7 t.C_Desk "answer_new" ["self","shut","salt","key"] (sp_Desk_answer_new t):=by
 refine okM T.d_Desk_answer_new sc_Desk_answer_new (fun vs H Q E h=>?_) (fun f cdv A outer s H vs Q E hr h=>?_)
 ·obtain ⟨M,a,d,sa,ka,sB,z,salt,key,rfl,hD,hsa,hka,hsalt,hk1,hk2,q⟩:=h
  rfl
 ·obtain ⟨M,a,d,sa,ka,sB,z,salt,key,rfl,hD,hsa,hka,hsalt,hk1,hk2,q⟩:=h
  refine ⟨_,(Zb (Z4 (Xa (X9 Xm Xm Zf (pv 1) Zf)) (Ze (Zj (Zz (Za (pgi rfl T.c_OUT_OF_RANGE) Zd)))) Zr)
   (Zb (Ye (K:=K) rfl (pv 0) (pk (ok_Volume_init T) hr (Za (pv 1) (Za (pv 2) (Za (pv 3) Zd)))) rfl)
   (Ze (Zj (Zz (Za Zf Zd)))))),?_⟩
  have ha:Md33.answer sB (.new_ z salt key)=if Md33.within z 0 1=false then (sB,Md33.only (-8)) else (some (Md33.begun (keyOf z key) salt),Md33.only 0):=by cases sB<;>rfl
  rw[ha] at q
  refine ⟨_,rfl,rchain ⟨_,rfl,?_⟩⟩
  cases hw:Md33.within z 0 1 with
  | false=>
   rw[if_pos hw] at q
   refine iteT ?_
   exact ⟨(show 1≤sizeLine by decide),fun r hr'=>Zt q hD (Zk hr') Zc hr'⟩
  | true=>
   rw[if_neg (by rw[hw];exact Bool.noConfusion)] at q
   refine iteF ?_
   obtain ⟨dxd,f,od⟩:∃dxd f,H d=some (.ins t.C_Desk dxd [("volume",f)]):=by
    cases sB with
    | none=>obtain ⟨⟨dx,h⟩,_⟩:=hD;exact ⟨dx,_,h⟩
    | some b=>obtain ⟨⟨dx,h⟩,_⟩:=hD;exact ⟨dx,_,h⟩
   obtain ⟨presM,hdM⟩:=desk_pres hD
   refine ⟨_,rfl,_,rfl,_,rfl,fun x dx nx ndx hne=>?_⟩
   have s1:Same H (upd (upd H dx (.own x)) x (.ins t.C_Volume dx [])):=fun b o eb=>by rw[Zn (Zg eb nx),Zn (Zg eb ndx)];exact eb
   have x1:(upd (upd H dx (.own x)) x (.ins t.C_Volume dx [])) x=some (.ins t.C_Volume dx []):=Zc
   generalize upd (upd H dx (.own x)) x (.ins t.C_Volume dx [])=G1 at *
   refine ⟨M,x,dx,sa,ka,z,keyOf z key,salt,rfl,Yh (F:=[]) presM (.of_same s1) (by simp),nKey_keyOf hw,x1,s1 _ _ hsa,by rw[getD_keyOf hk2];exact s1 _ _ hka,hsalt,key_keyOf hk1,fun M' a' G2 hav k2 hMs2 hM2 hfo2 X2=>⟨rfl,?_⟩⟩
   have hdx:d≠x:=Zg od nx
   have od2:=k2 _ _ (by simpa using hdx) (s1 _ _ od)
   refine ⟨_,rfl,d,_,dxd,_,rfl,od2,T.k_Desk,T.na_Desk_volume,(show 1<1000 by decide),?_⟩
   have k3:Qr [d] G2 (upd G2 d (.ins t.C_Desk dxd (putF "volume" (.ref x) [("volume",f)]))):=Qr.upd (by simp)
   have d3:(upd G2 d (.ins t.C_Desk dxd (putF "volume" (.ref x) [("volume",f)]))) d=some (.ins t.C_Desk dxd [("volume",.ref x)]):=Zc
   generalize upd G2 d (.ins t.C_Desk dxd (putF "volume" (.ref x) [("volume",f)]))=G3 at *
   have hdM':d∉M':=fun z'=>by
    rcases hM2 d z' with e|e|e
    ·exact hdM e
    ·exact hdx e
    ·rw[s1 _ _ od] at e;cases e
   refine ⟨(show 1≤sizeLine by decide),fun r nr=>?_⟩
   have s4:=Zk (o:=.lst [V.int 0]) nr
   have K2:Qr (d::foot a) H G2:=fun p o hp ho=>k2 p o (by simpa using Zg ho nx) (s1 _ _ ho)
   have hM':∀y∈M',y∈M∨H y=none:=fun y hy=>by
    rcases hM2 y hy with e|e|e
    ·exact .inl e
    ·exact .inr (by rw[e];exact nx)
    ·exact .inr (s1.free e)
   have hfo:∀y∈foot a',y∈foot a∨H y=none:=fun y hy=>.inr (by
    rcases hfo2 y hy with e|e
    ·rw[e];exact nx
    ·exact s1.free e)
   refine q r M' a' _ ((K2.trans (k3.mono (mem1 (by simp)))).trans (.of_same s4)) hMs2 hM' hfo ⟨⟨dxd,s4 _ _ (by rw[d3,hav])⟩,(X2.out od2 k3 hdM').same s4,hdM'⟩ Zc (fresh_d (K2.trans (k3.mono (mem1 (by simp)))) (by rw[d3];simp) nr)
def sp_Desk_answer_put (t:Adr):Sp:=fun vs H Q _=>∃(M:List Addr) (a:VA) (d nu nm bd:Addr) (b:Md33.Book) (kind n m:Int) (name body:List Nat),vs=[.ref d,.ref nu,.ref nm,.ref bd]∧DeskO t M H d a (some b)∧H nu=some (.lst (zvs [kind,n,m]))∧Off M H nm (.lst (nats name))∧Off M H bd (.lst (nats body))∧(Md33.within kind 0 255=true→Md33.within n 1 64=true→Md33.within m 0 65536=true→(Md33.Entry.put kind.toNat name body).fits)∧DPost t M H d a (Md33.answer (some b) (.put kind n m name body)) Q
theorem ok_Desk_answer_put (T:Txt K mg t):OkM P w K mg base 8 t.C_Desk "answer_put" ["self","numbers","name","body"] (sp_Desk_answer_put t):=by
 refine okM T.d_Desk_answer_put sc_Desk_answer_put (fun vs H Q E h=>?_) (fun f cdv A outer s H vs Q E hr h=>?_)
 ·obtain ⟨M,a,d,nu,nm,bd,b,kind,n,m,name,body,rfl,hD,hnu,hn,hb,hfit,q⟩:=h
  rfl
 ·obtain ⟨M,a,d,nu,nm,bd,b,kind,n,m,name,body,rfl,hD,hnu,hn,hb,hfit,q⟩:=h
  refine ⟨_,(Zb (Zo (i:=4) sc_Desk_answer_put.nd rfl (Or.inl rfl) (Zx (Zl (K:=K) rfl) (pv 1) Zf (fun _ _=>rfl)))
   (Zb (Z4 (Xa (PW.pt (pw_and (X9 Xm Xm Zf (pv 4) Zf) (pw_and (Ji (pf (Yz T) hr (Za (Zx (Zl (K:=K) rfl) (pv 1) Zf (fun _ _=>rfl)) Zd))) (pw_and1 (X9 Xm Xm Zf (Zx (Zl (K:=K) rfl) (pv 1) Zf (fun _ _=>rfl)) (pgi rfl T.c_MOST_BODY_BYTES))))))) (Ze (Zj (Zz (Za (pgi rfl T.c_OUT_OF_RANGE) Zd)))) Zr)
   (Ze (Zj (Zz (Za (pm (Zi (K:=K) rfl (pv 0) rfl) T.k_Volume (ok_Volume_put T) hr (Za (pv 4) (Za (pv 2) (Za (pv 3) Zd)))) Zd)))))),?_⟩
  obtain ⟨⟨dxd,od⟩,X,hdM⟩:=id hD
  obtain ⟨es,L,X0,g⟩:=X.ex
  obtain ⟨dx,sv,ov,os⟩:=X0.ov
  have ha:Md33.answer (some b) (.put kind n m name body)=if Md33.within kind 0 255=false∨Md33.within n 1 64=false∨Md33.within m 0 65536=false then (some b,Md33.only (-8)) else Md33.enter b (.put kind.toNat name body) (-2):=rfl
  rw[ha] at q
  refine ⟨_,rfl,nu,_,_,_,rfl,rfl,SqL.of hnu,at_i (j:=0) (by simp) rfl,?_⟩
  refine ⟨_,rfl,rchain ⟨_,rfl,?_⟩⟩
  cases hw1:Md33.within kind 0 255 with
  | false=>
   rw[if_pos (.inl hw1)] at q
   have hw1':Md33.within ([kind,n,m].getD 0 0) 0 255=false:=hw1
   rw[hw1']
   refine iteF ?_
   refine iteT ?_
   exact ⟨(show 1≤sizeLine by decide),fun r hr'=>Zt q hD (Zk hr') Zc hr'⟩
  | true=>
   have hw1':Md33.within ([kind,n,m].getD 0 0) 0 255=true:=hw1
   rw[hw1']
   refine iteT ?_
   refine ⟨_,rfl,nu,_,_,_,rfl,rfl,SqL.of hnu,at_i (j:=1) (by simp) rfl,n,rfl,_,rfl,?_⟩
   cases hw2:Md33.within n 1 64 with
   | false=>
    rw[if_pos (.inr (.inl hw2))] at q
    refine iteF ?_
    refine iteT ?_
    exact ⟨(show 1≤sizeLine by decide),fun r hr'=>Zt q hD (Zk hr') Zc hr'⟩
   | true=>
    refine iteT ?_
    refine ⟨_,rfl,nu,_,_,_,rfl,rfl,SqL.of hnu,at_i (j:=2) (by simp) rfl,rchain ⟨_,rfl,?_⟩⟩
    cases hw3:Md33.within m 0 65536 with
    | false=>
     rw[if_pos (.inr (.inr hw3))] at q
     have hw3':Md33.within ([kind,n,m].getD 2 0) 0 65536=false:=hw3
     rw[hw3']
     refine iteT ?_
     exact ⟨(show 1≤sizeLine by decide),fun r hr'=>Zt q hD (Zk hr') Zc hr'⟩
    | true=>
     have hw3':Md33.within ([kind,n,m].getD 2 0) 0 65536=true:=hw3
     rw[hw3']
     rw[if_neg (by rw[hw1,hw2,hw3];rintro (z|z|z)<;>cases z)] at q
     refine iteF ?_
     have hk0:0≤kind:=by
      unfold Md33.within at hw1
      have:0≤kind∧kind≤255:=by simpa using hw1
      exact this.1
     have hf:=hfit hw1 hw2 hw3
     refine ⟨_,rfl,_,_,_,_,_,rfl,od,T.k_Desk,T.na_Desk_volume,rfl,a.v,dx,_,rfl,ov,rfl,_,rfl,_,rfl,_,rfl,M,a,nm,bd,b,_,kind.toNat,name,body,rfl,(show kind=((kind.toNat:Nat):Int) by omega),X,hn,hb,hf,fun c hc=>⟨fun hz H1 s1=>?_,fun hz H1 k1 X1=>?_⟩⟩
     ·unfold Md33.enter at q
      rw[hc] at q
      dsimp only at q
      rw[if_pos (show Md33.BOOK<c.bytes.length from hz)] at q
      exact ⟨(show 1≤sizeLine by decide),fun r nr=>Zt q hD (s1.trans (Zk nr)) Zc (s1.free nr)⟩
     ·unfold Md33.enter at q
      rw[hc] at q
      dsimp only at q
      rw[if_neg (show ¬ Md33.BOOK<c.bytes.length from Nat.not_lt.mpr hz)] at q
      refine ⟨(show 1≤sizeLine by decide),fun r nr=>?_⟩
      have s2:=Zk (o:=.lst [nV c.count]) nr
      exact q r M a _ ((k1.mono fun y hy=>List.mem_cons_of_mem _ hy).trans (.of_same s2)) (fun y hy=>hy) (fun y hy=>.inl hy) (fun y hy=>.inl hy) ⟨⟨dxd,s2 _ _ (k1 _ _ (fun z=>hdM (Ju X0 _ z)) od)⟩,X1.same s2,hdM⟩ Zc (fresh_or k1 nr)
def sp_Desk_answer_drop (t:Adr):Sp:=fun vs H Q _=>∃(M:List Addr) (a:VA) (d nm:Addr) (b:Md33.Book) (n:Int) (name:List Nat),vs=[.ref d,.int n,.ref nm]∧DeskO t M H d a (some b)∧Off M H nm (.lst (nats name))∧(Md33.within n 1 64=true→(Md33.Entry.drop name).fits)∧DPost t M H d a (Md33.answer (some b) (.drop n name)) Q
theorem ok_Desk_answer_drop (T:Txt K mg t):OkM P w K mg base 8 t.C_Desk "answer_drop" ["self","name_length","name"] (sp_Desk_answer_drop t):=by
 refine okM T.d_Desk_answer_drop sc_Desk_answer_drop (fun vs H Q E h=>?_) (fun f cdv A outer s H vs Q E hr h=>?_)
 ·obtain ⟨M,a,d,nm,b,n,name,rfl,hD,hn,hfit,q⟩:=h
  rfl
 ·obtain ⟨M,a,d,nm,b,n,name,rfl,hD,hn,hfit,q⟩:=h
  refine ⟨_,(Zb (Z4 (Xa (Ji (pf (Yz T) hr (Za (pv 1) Zd)))) (Ze (Zj (Zz (Za (pgi rfl T.c_OUT_OF_RANGE) Zd)))) Zr)
   (Ze (Zj (Zz (Za (pm (Zi (K:=K) rfl (pv 0) rfl) T.k_Volume (ok_Volume_drop T) hr (Za (pv 2) Zd)) Zd))))),?_⟩
  obtain ⟨⟨dxd,od⟩,X,hdM⟩:=id hD
  obtain ⟨es,L,X0,g⟩:=X.ex
  obtain ⟨dx,sv,ov,os⟩:=X0.ov
  have ha:Md33.answer (some b) (.drop n name)=if Md33.within n 1 64=false then (some b,Md33.only (-8)) else Md33.enter b (.drop name) (-2):=rfl
  rw[ha] at q
  refine ⟨_,rfl,n,rfl,_,rfl,?_⟩
  cases hw:Md33.within n 1 64 with
  | false=>
   rw[if_pos hw] at q
   refine iteT ?_
   exact ⟨(show 1≤sizeLine by decide),fun r hr'=>Zt q hD (Zk hr') Zc hr'⟩
  | true=>
   rw[if_neg (by rw[hw];exact Bool.noConfusion)] at q
   refine iteF ?_
   refine ⟨_,rfl,_,_,_,_,_,rfl,od,T.k_Desk,T.na_Desk_volume,rfl,a.v,dx,_,rfl,ov,rfl,_,rfl,M,a,nm,b,name,rfl,X,hn,hfit hw,fun hno H1 s1=>?_,fun c hc=>⟨fun hz H1 s1=>?_,fun hz H1 k1 X1=>?_⟩⟩
   ·have hnone:Md33.added b (.drop name)=none:=by
     unfold Md33.added Md33.after
     dsimp only
     rw[if_neg (by rw[hno];exact Bool.false_ne_true)];rfl
    unfold Md33.enter at q
    rw[hnone] at q
    exact ⟨(show 1≤sizeLine by decide),fun r nr=>Zt q hD (s1.trans (Zk nr)) Zc (s1.free nr)⟩
   ·unfold Md33.enter at q
    rw[hc] at q
    dsimp only at q
    rw[if_pos (show Md33.BOOK<c.bytes.length from hz)] at q
    exact ⟨(show 1≤sizeLine by decide),fun r nr=>Zt q hD (s1.trans (Zk nr)) Zc (s1.free nr)⟩
   ·unfold Md33.enter at q
    rw[hc] at q
    dsimp only at q
    rw[if_neg (show ¬ Md33.BOOK<c.bytes.length from Nat.not_lt.mpr hz)] at q
    refine ⟨(show 1≤sizeLine by decide),fun r nr=>?_⟩
    have s2:=Zk (o:=.lst [nV c.count]) nr
    exact q r M a _ ((k1.mono fun y hy=>List.mem_cons_of_mem _ hy).trans (.of_same s2)) (fun y hy=>hy) (fun y hy=>.inl hy) (fun y hy=>.inl hy) ⟨⟨dxd,s2 _ _ (k1 _ _ (fun z=>hdM (Ju X0 _ z)) od)⟩,X1.same s2,hdM⟩ Zc (fresh_or k1 nr)
def sp_Desk_answer_back (t:Adr):Sp:=fun vs H Q _=>∃(M:List Addr) (a:VA) (d:Addr) (b:Md33.Book) (k:Int),vs=[.ref d,.int k]∧DeskO t M H d a (some b)∧DPost t M H d a (Md33.answer (some b) (.back k)) Q
theorem ok_Desk_answer_back (T:Txt K mg t):OkM P w K mg base 8 t.C_Desk "answer_back" ["self","number"] (sp_Desk_answer_back t):=by
 refine okM T.d_Desk_answer_back sc_Desk_answer_back (fun vs H Q E h=>?_) (fun f cdv A outer s H vs Q E hr h=>?_)
 ·obtain ⟨M,a,d,b,k,rfl,hD,q⟩:=h
  rfl
 ·obtain ⟨M,a,d,b,k,rfl,hD,q⟩:=h
  refine ⟨_,(Zb (Z4 (Xa (X9 Xm Xm Zf (pv 1) (pm0 (Zi (K:=K) rfl (Zi (K:=K) rfl (pv 0) rfl) rfl) T.k_History (Z7 T) hr))) (Ze (Zj (Zz (Za (pgi rfl T.c_OUT_OF_RANGE) Zd)))) Zr)
   (Ze (Zj (Zz (Za (pm (Zi (K:=K) rfl (pv 0) rfl) T.k_Volume (ok_Volume_back T) hr (Za (pv 1) Zd)) Zd))))),?_⟩
  obtain ⟨⟨dxd,od⟩,X,hdM⟩:=id hD
  obtain ⟨es,L,X0,g⟩:=X.ex
  obtain ⟨dx,sv,ov,os⟩:=X0.ov
  obtain ⟨dxh,oh⟩:=X0.hst.hen.oh
  have hcnt:0<b.stands.length:=List.length_pos_iff.mpr g.good.ne
  have ha:Md33.answer (some b) (.back k)=if Md33.within k 0 (b.count:Int)=false then (some b,Md33.only (-8)) else Md33.enter b (.back k.toNat) (-8):=rfl
  rw[ha] at q
  have hE:0<(b.stands.map endOf).length:=by rw[List.length_map];exact hcnt
  have hwin:Md33.within k 0 (b.count:Int)=(decide (0≤k)&&decide (k≤((b.stands.length-1:Nat):Int))):=rfl
  rw[hwin] at q
  refine ⟨_,rfl,_,_,rfl,rfl,_,rfl,ite2 (fun h1=>?_) fun h1=>?_⟩
  rotate_left
  ·have h0:decide (0≤k)=false:=Bool.eq_false_iff.mpr h1
   rw[h0,Bool.false_and,if_pos rfl] at q
   refine ⟨_,rfl,?_⟩
   refine iteT ?_
   exact ⟨(show 1≤sizeLine by decide),fun r hr'=>Zt q hD (Zk hr') Zc hr'⟩
  rw[show decide (0≤k)=true from h1,Bool.true_and] at q
  refine ⟨_,rfl,_,_,_,_,_,rfl,od,T.k_Desk,T.na_Desk_volume,rfl,_,_,_,_,_,rfl,ov,T.k_Volume,T.na_Volume_history,rfl,a.h,dxh,_,rfl,oh,rfl,M,a.h,a.en,a.ch,a.sd,_,_,rfl,X0.hst.hen,hE,_,_,rfl,rfl,_,rfl,?_⟩
  rw[List.length_map]
  cases hw:decide (k≤((b.stands.length-1:Nat):Int)) with
  | false=>
   rw[if_pos hw] at q
   refine iteT ?_
   exact ⟨(show 1≤sizeLine by decide),fun r hr'=>Zt q hD (Zk hr') Zc hr'⟩
  | true=>
   rw[if_neg (by rw[hw];exact Bool.noConfusion)] at q
   have h0:0≤k:=of_decide_eq_true h1
   have h2:k≤((b.stands.length-1:Nat):Int):=of_decide_eq_true hw
   refine iteF ?_
   obtain ⟨st,hst⟩:∃st,b.stands[k.toNat]?=some st:=⟨_,List.getElem?_eq_getElem (show k.toNat<b.stands.length by omega)⟩
   refine ⟨_,rfl,_,_,_,_,_,rfl,od,T.k_Desk,T.na_Desk_volume,rfl,a.v,dx,_,rfl,ov,rfl,_,rfl,M,a,b,_,k.toNat,st,rfl,(by omega),X,hst,fun c hc=>⟨fun hz H1 s1=>?_,fun hz a' M' H1 hav k1 hMs1 hM1 hfo1 X1=>?_⟩⟩
   ·unfold Md33.enter at q
    rw[hc] at q
    dsimp only at q
    rw[if_pos (show Md33.BOOK<c.bytes.length from hz)] at q
    exact ⟨(show 1≤sizeLine by decide),fun r nr=>Zt q hD (s1.trans (Zk nr)) Zc (s1.free nr)⟩
   ·unfold Md33.enter at q
    rw[hc] at q
    dsimp only at q
    rw[if_neg (show ¬ Md33.BOOK<c.bytes.length from Nat.not_lt.mpr hz)] at q
    refine ⟨(show 1≤sizeLine by decide),fun r nr=>?_⟩
    have s2:=Zk (o:=.lst [nV c.count]) nr
    have hdM':d∉M':=fun z=>by
     rcases hM1 d z with e|e
     ·exact hdM e
     ·rw[od] at e;cases e
    exact q r M' a' _ ((k1.mono fun y hy=>List.mem_cons_of_mem _ hy).trans (.of_same s2)) hMs1 hM1 hfo1 ⟨⟨dxd,s2 _ _ (by rw[hav];exact k1 _ _ (fun z=>hdM (Ju X0 _ z)) od)⟩,X1.same s2,hdM'⟩ Zc (fresh_or k1 nr)
end
section
variable {P:Program} {w:World} {K:PySem.W.Frag} {mg:Str→Option Value} {base:Heap} {t:Adr}
def sp_Desk_answer_read (t:Adr):Sp:=fun vs H Q _=>∃(M:List Addr) (a:VA) (d ka dd:Addr) (b:Md33.Book) (z m:Int) (key r:List Nat),vs=[.ref d,.int z,.int m,.ref ka,.ref dd]∧DeskO t M H d a (some b)∧H ka=some (.lst (nats key))∧Off M H dd (.lst (nats r))∧(z=1→B16 key)∧(z≠1→key=[])∧(∀x∈r,x<256)∧r.length≤1048576∧DPost t M H d a (Md33.answer (some b) (.read z m key r)) Q
theorem ok_Desk_answer_read (T:Txt K mg t):OkM P w K mg base 9 t.C_Desk "answer_read" ["self","shut","length","key","data"] (sp_Desk_answer_read t):=by
 refine okM T.d_Desk_answer_read Xz (fun vs H Q E h=>?_) (fun f cdv A outer s H vs Q E hr h=>?_)
 ·obtain ⟨M,a,d,ka,dd,b,z,m,key,r,rfl,hD,hka,hddo,hk1,hk2,hrb,hrl,q⟩:=h
  rfl
 ·obtain ⟨M,a,d,ka,dd,b,z,m,key,r,rfl,hD,hka,hddo,hk1,hk2,hrb,hrl,q⟩:=h
  refine ⟨_,(Zb (Z4 (Xa (PW.pt (pw_and (X9 Xm Xm Zf (pv 1) Zf) (pw_and1 (X9 Xm Xm Zf (pv 2) (pgi rfl T.c_MOST_BOOK_BYTES)))))) (Ze (Zj (Zz (Za (pgi rfl T.c_OUT_OF_RANGE) Zd)))) Zr)
   (Zb (Z4 (Xa (Ji (pf (ok_begins_as_head T) hr (Za (pv 4) (Za (pv 1) Zd))))) (Ze (Zj (Zz (Za (pgi rfl T.c_NO_HEAD) Zd)))) Zr)
   (Zb (Zo (i:=5) Xz.nd rfl (Or.inl rfl) (pk (ok_Volume_init T) hr (Za (pv 1) (Za (pf (ok_salt_of T) hr (Za (pv 4) Zd)) (Za (pv 3) Zd)))))
   (Zb (Z4 (Zu (op_neDK (K:=K) rfl (hv_of hr)) (Zi (K:=K) rfl (pv 5) rfl) (Z1 (Z0 (K:=K) rfl) (pv 4) Yt (Zv (pgi rfl T.c_HEAD_BYTES))) (Qv _)) (Ze (Zj (Zz (Za (pgi rfl T.c_WRONG_HEAD_SUM) Zd)))) Zr)
   (Zb (Zo (i:=6) Xz.nd rfl (Or.inl rfl) (pf (ok_take_entries T) hr (Za (pv 5) (Za (pv 4) Zd))))
   (Zb (Ye (K:=K) rfl (pv 0) (pv 5) rfl)
   (Ze (Zj (Zz (Za (pm0 (Zi (K:=K) rfl (pv 5) rfl) T.k_History (Z7 T) hr) (Za (Zs (Zq (K:=K) rfl) rfl T.n_len PySem.boot_len (Za (Zi (K:=K) rfl (pv 5) rfl) Zd)) (Za (pv 6) Zd)))))))))))),?_⟩
  have hdd:=hddo.1
  obtain ⟨presM,_⟩:=desk_pres hD
  obtain ⟨⟨dxd,od⟩,X,hdM⟩:=id hD
  have ha:Md33.answer (some b) (.read z m key r)=if Md33.within z 0 1=false∨Md33.within m 0 1048576=false then (some b,Md33.only (-8)) else (match Md33.readBook (keyOf z key) r with
    | .error v=>(some b,Md33.only v)
    | .ok (c,why)=>(some c,⟨(c.count:Int),[(c.bytes.length:Int),(why:Int)]⟩)):=rfl
  rw[ha] at q
  refine ⟨_,rfl,rchain ⟨_,rfl,?_⟩⟩
  cases hw1:Md33.within z 0 1 with
  | false=>
   rw[if_pos (.inl hw1)] at q
   refine iteF ?_
   refine iteT ?_
   exact ⟨(show 1≤sizeLine by decide),fun r hr'=>Zt q hD (Zk hr') Zc hr'⟩
  | true=>
   refine iteT ?_
   refine ⟨_,rfl,rchain ⟨_,rfl,?_⟩⟩
   cases hw2:Md33.within m 0 1048576 with
   | false=>
    rw[if_pos (.inr hw2)] at q
    refine iteT ?_
    exact ⟨(show 1≤sizeLine by decide),fun r hr'=>Zt q hD (Zk hr') Zc hr'⟩
   | true=>
    rw[if_neg (by rw[hw1,hw2];rintro (z|z)<;>cases z)] at q
    refine iteF ?_
    have hz:=nKey_keyOf (key:=key) hw1
    have hkey:=key_keyOf hk1
    refine ⟨_,rfl,_,rfl,dd,z,r,nKey (keyOf z key),rfl,hz,hdd,fun H1 s1=>⟨_,rfl,?_⟩⟩
    by_cases hh:44≤r.length∧r.take 8=mk8 (nKey (keyOf z key))
    rotate_left
    ·rw[decide_eq_false hh]
     refine iteT ?_
     have hrd:Md33.readBook (keyOf z key) r=.error (-3):=by
      unfold Md33.readBook
      rw[if_pos]
      by_cases h44:44≤r.length
      ·exact .inr fun e=>hh ⟨h44,e⟩
      ·exact .inl (Nat.lt_of_not_le h44)
     rw[hrd] at q
     exact ⟨(show 1≤sizeLine by decide),fun p nr=>Zt q hD (s1.trans (Zk nr)) Zc (s1.free nr)⟩
    rw[decide_eq_true hh]
    refine iteF ?_
    have hrd0:Md33.readBook (keyOf z key) r=if r.take 44≠Md33.headOf (keyOf z key) ((r.drop 8).take 16) then .error (-5) else .ok (Md33.takes (r.length+1) (Md33.begun (keyOf z key) ((r.drop 8).take 16)) (r.drop 44)):=by
     unfold Md33.readBook
     rw[if_neg (by rintro (e|e);exact absurd hh.1 (Nat.not_le.mpr e);exact e hh.2)]
     rfl
    refine ⟨_,rfl,_,rfl,dd,r,rfl,s1 _ _ hdd,fun p2 H2 s2 n2 e2=>?_⟩
    refine ⟨_,rfl,fun x dx nx ndx hne=>?_⟩
    have s3:Same H2 (upd (upd H2 dx (.own x)) x (.ins t.C_Volume dx [])):=fun b o eb=>by rw[Zn (Zg eb nx),Zn (Zg eb ndx)];exact eb
    have x3:(upd (upd H2 dx (.own x)) x (.ins t.C_Volume dx [])) x=some (.ins t.C_Volume dx []):=Zc
    generalize upd (upd H2 dx (.own x)) x (.ins t.C_Volume dx [])=G3 at *
    have S3:=(s1.trans s2).trans s3
    have hsalt:B16 ((r.drop 8).take 16):=⟨by rw[List.length_take,List.length_drop];omega,fun y hy=>hrb y (List.mem_of_mem_drop (List.mem_of_mem_take hy))⟩
    refine ⟨M,x,dx,p2,ka,z,keyOf z key,(r.drop 8).take 16,rfl,Yh (F:=[]) presM (.of_same S3) (by simp),hz,x3,s3 _ _ e2,by rw[getD_keyOf hk2];exact S3 _ _ hka,hsalt,hkey,fun M2 a2 G4 hav k4 hMs4 hM4 hfo4 X4=>⟨rfl,?_⟩⟩
    have S2:=s1.trans s2
    have nxH:H x=none:=S2.free nx
    have S4:Same H G4:=fun y o ho=>k4 y o (by simpa using Zg ho nxH) (S3 _ _ ho)
    obtain ⟨es,L,X0,g⟩:=X4.ex
    obtain ⟨dx4,sv4,ov4,os4⟩:=X0.ov
    rw[hav] at ov4
    have hM4':∀y∈M2,y∈M∨H y=none:=fun y hy=>by
     rcases hM4 y hy with e|e|e
     ·exact .inl e
     ·exact .inr (by rw[e];exact nxH)
     ·exact .inr (S3.free e)
    have hfH:∀y∈foot a2,H y=none:=fun y hy=>by
     rcases hfo4 y hy with e|e
     ·rw[e];exact nxH
     ·exact S3.free e
    have hddM:dd∉M2:=fun z'=>by
     rcases hM4' dd z' with e|e
     ·exact hddo.2 e
     ·rw[hdd] at e;cases e
    have hdM2:d∉foot a2:=fun z'=>by have:=hfH d z';rw[od] at this;cases this
    refine ⟨_,rfl,_,_,_,_,_,rfl,ov4,T.k_Volume,T.na_Volume_content,rfl,_,rfl,_,rfl,dd,_,rfl,SqL.of (S4 _ _ hdd),fun p5 n5=>?_⟩
    rw[show (some (44:Int))=some ((44:Nat):Int) from rfl,cut_to]
    obtain ⟨s5,e5⟩:=Zp (o:=.lst (nats (r.take 44))) n5
    generalize upd G4 p5 (.lst (nats (r.take 44)))=G5 at *
    refine rne (s5 _ _ X0.oc) e5 ⟨_,rfl,?_⟩
    have hbb:(Md33.begun (keyOf z key) ((r.drop 8).take 16)).bytes=Md33.headOf (keyOf z key) ((r.drop 8).take 16):=rfl
    rw[hbb]
    by_cases he:Md33.headOf (keyOf z key) ((r.drop 8).take 16)=r.take 44
    rotate_left
    ·rw[decide_eq_false he]
     refine iteT ?_
     rw[hrd0,if_pos (fun e=>he e.symm)] at q
     exact ⟨(show 1≤sizeLine by decide),fun p nr=>Zt q hD ((S4.trans s5).trans (Zk nr)) Zc ((S4.trans s5).free nr)⟩
    rw[decide_eq_true he]
    refine iteF ?_
    rw[hrd0,if_neg (fun e=>e he.symm)] at q
    obtain ⟨c,why,hck⟩:∃c why,Md33.takes (r.length+1) (Md33.begun (keyOf z key) ((r.drop 8).take 16)) (r.drop 44)=(c,why):=⟨_,_,rfl⟩
    rw[hck] at q
    have hbl:(Md33.begun (keyOf z key) ((r.drop 8).take 16)).bytes.length=44:=(J4 hkey hsalt).1
    refine ⟨_,rfl,_,rfl,M2,a2,dd,_,r,r.length+1,c,why,by rw[hav];rfl,X4.same s5,⟨s5 _ _ (S4 _ _ hdd),hddM⟩,hrb,hrl,by rw[hbl];exact hh.1,by omega,by rw[hbl];exact hck,fun a6 M6 G6 hav6 k6 hMs6 hM6 hfo6 X6=>?_⟩
    have K6:Qr (foot a2) H G6:=(Qr.of_same (S4.trans s5)).trans k6
    have hM6':∀y∈M6,y∈M∨H y=none:=fun y hy=>by
     rcases hM6 y hy with e|e
     ·exact hM4' y e
     ·exact .inr ((S4.trans s5).free e)
    have hfH6:∀y∈foot a6,y∈foot a∨H y=none:=fun y hy=>by
     rcases hfo6 y hy with e|e
     ·exact .inr (hfH y e)
     ·exact .inr ((S4.trans s5).free e)
    have hdM6:d∉M6:=fun z'=>by
     rcases hM6' d z' with e|e
     ·exact hdM e
     ·rw[od] at e;cases e
    have od6:=K6 _ _ hdM2 od
    have hav6':a6.v=x:=hav6.trans hav
    refine ⟨_,rfl,_,rfl,d,_,dxd,_,rfl,od6,T.k_Desk,T.na_Desk_volume,(show 1<1000 by decide),?_⟩
    have k7:Qr [d] G6 (upd G6 d (.ins t.C_Desk dxd (putF "volume" (.ref x) [("volume",.ref a.v)]))):=Qr.upd (by simp)
    have d7:(upd G6 d (.ins t.C_Desk dxd (putF "volume" (.ref x) [("volume",.ref a.v)]))) d=some (.ins t.C_Desk dxd [("volume",.ref x)]):=Zc
    generalize upd G6 d (.ins t.C_Desk dxd (putF "volume" (.ref x) [("volume",.ref a.v)]))=G7 at *
    have X7:=X6.out od6 k7 hdM6
    obtain ⟨es7,L7,X07,g7⟩:=X7.ex
    obtain ⟨dx7,sv7,ov7,os7⟩:=X07.ov
    rw[hav6'] at ov7
    obtain ⟨dxh7,oh7⟩:=X07.hst.hen.oh
    have hE:0<(c.stands.map endOf).length:=by rw[List.length_map];exact List.length_pos_iff.mpr g7.good.ne
    refine ⟨_,rfl,_,_,_,_,_,rfl,ov7,T.k_Volume,T.na_Volume_history,rfl,a6.h,dxh7,_,rfl,oh7,rfl,M6,a6.h,a6.en,a6.ch,a6.sd,_,_,rfl,X07.hst.hen,hE,_,rfl,_,_,_,_,_,rfl,ov7,T.k_Volume,T.na_Volume_content,rfl,a6.co,_,rfl,.inl (SqL.of X07.oc),_,rfl,(show 3≤sizeLine by decide),fun p nr=>?_⟩
    rw[List.length_map,Zh]
    have s8:=Zk (o:=.lst [nV (c.stands.length-1),V.int c.bytes.length,nV why]) nr
    have K7:Qr (d::foot a) H G7:=fun y o hy ho=>by
     have hy2:y∉foot a2:=fun z'=>by have:=hfH y z';rw[ho] at this;cases this
     exact k7 y o (by simp at hy;simp[hy.1]) (K6 y o hy2 ho)
    exact q p M6 a6 _ (K7.trans (.of_same s8)) (fun y hy=>hMs6 y (hMs4 y hy)) hM6' hfH6 ⟨⟨dxd,s8 _ _ (by rw[d7,hav6'])⟩,X7.same s8,hdM6⟩ Zc (fresh_d K7 (by rw[d7];simp) nr)
end
theorem Z9 {l:List Int} (h:Md33Neutral.bytes l=true):zvs l=nats (Md33Neutral.nats l)∧(∀x∈Md33Neutral.nats l,x<256)∧(Md33Neutral.nats l).length=l.length:=by
 have hz:∀z∈l,0≤z∧z<256:=fun z hz=>by
  have:=List.all_eq_true.mp h z hz
  have h2:0≤z∧z<2^8:=by unfold Md33Neutral.natural at this;simpa using this
  exact ⟨h2.1,h2.2⟩
 refine ⟨?_,fun x hx=>?_,by unfold Md33Neutral.nats;rw[List.length_map]⟩
 ·unfold Md33Neutral.nats nats zvs
  rw[List.map_map]
  refine List.map_congr_left fun z hm=>?_
  show V.int z=V.int ((z.toNat:Nat):Int)
  rw[Int.toNat_of_nonneg (hz z hm).1]
 ·unfold Md33Neutral.nats at hx
  obtain ⟨z,hm,rfl⟩:=List.mem_map.mp hx
  have:=hz z hm
  omega
theorem Y7 {z lo hi:Int} (h:Md33.within z lo hi=true):lo≤z∧z≤hi:=by
 unfold Md33.within at h
 simpa using h
theorem long_len {l:List Int} {n lo hi:Int} (h:Md33Neutral.long l n lo hi=true) (hn:lo≤n∧n≤hi):(l.length:Int)=n:=by
 unfold Md33Neutral.long at h
 have:=of_decide_eq_true h
 rw[if_pos hn] at this
 exact this
inductive Form:List (List Int)→Prop
 | f1 (a l k) (w2:Md33Neutral.bytes l=true) (w3:l.length=16) (w4:Md33Neutral.bytes k=true) (w5:(k.length:Int)=Md33Neutral.keyLen a):Form [[1,a],l,k]
 | f2 (a n m l r) (w4:Md33Neutral.bytes l=true) (w5:Md33Neutral.bytes r=true) (w6:if Md33Neutral.upTo 255 a=true∧1≤n∧n≤64∧0≤m∧m≤65536 then (l.length:Int)=n∧(r.length:Int)=m else l=[]∧r=[]):Form [[2,a,n,m],l,r]
 | f3 (n l) (w2:Md33Neutral.bytes l=true) (w3:Md33Neutral.long l n 1 64=true):Form [[3,n],l]
 | f4 (a):Form [[4,a]]
 | f5 (n l) (w2:Md33Neutral.bytes l=true):Form [[5,n],l]
 | f6 (a b):Form [[6,a,b]]
 | f7 (a n l) (w2:Md33Neutral.bytes l=true):Form [[7,a,n],l]
 | f8 (a b):Form [[8,a,b]]
 | f9 (a m k l) (w3:Md33Neutral.bytes k=true) (w4:(k.length:Int)=Md33Neutral.keyLen a) (w5:Md33Neutral.bytes l=true):Form [[9,a,m],k,l]
 | f10 (m l) (w2:Md33Neutral.bytes l=true):Form [[10,m],l]
 | f11:Form [[11]]
 | f12 (m l) (w2:Md33Neutral.bytes l=true):Form [[12,m],l]
 | f13:Form [[13]]
theorem and2 {x y:Bool} (h:(x&&y)=true):x=true∧y=true:=Bool.and_eq_true_iff.mp h
theorem form {c:List (List Int)} (h:Md33Neutral.asked1 c=true):Form c:=by
 rcases c with _|⟨_|⟨p|p,ns⟩,xs⟩
 ·exact absurd h Bool.false_ne_true
 ·exact absurd h Bool.false_ne_true
 ·rcases p with _|_|_|_|_|_|_|_|_|_|_|_|_|_|p
  all_goals try exact absurd h Bool.false_ne_true
  all_goals rcases ns with _|⟨a,_|⟨b,_|⟨d,_|⟨e,ns⟩⟩⟩⟩
  all_goals try exact absurd h Bool.false_ne_true
  all_goals rcases xs with _|⟨l,_|⟨k,_|⟨j,xs⟩⟩⟩
  all_goals try exact absurd h Bool.false_ne_true
  ·obtain ⟨x,y⟩:=and2 (and2 h).2
   exact .f1 _ _ _ (and2 x).1 (of_decide_eq_true (and2 x).2) (and2 y).1 (of_decide_eq_true (and2 y).2)
  ·obtain ⟨x,y⟩:=and2 (and2 (and2 (and2 h).2).2).2
   exact .f2 _ _ _ _ _ (and2 x).1 (and2 x).2 (of_decide_eq_true y)
  ·exact .f3 _ _ (and2 (and2 h).2).1 (and2 (and2 h).2).2
  ·exact .f4 _
  ·exact .f5 _ _ (and2 (and2 h).2).1
  ·exact .f6 _ _
  ·exact .f7 _ _ _ (and2 (and2 (and2 h).2).2).1
  ·exact .f8 _ _
  ·obtain ⟨x,y⟩:=and2 (and2 (and2 h).2).2
   exact .f9 _ _ _ _ (and2 x).1 (of_decide_eq_true (and2 x).2) (and2 y).1
  ·exact .f10 _ _ (and2 (and2 h).2).1
  ·exact .f11
  ·exact .f12 _ _ (and2 (and2 h).2).1
  ·exact .f13
 ·exact absurd h Bool.false_ne_true
section
variable {K:PySem.W.Frag} {t u:TS} {D:Ends} {σ:St} {H:Hp} {c C dx:Addr} {fs:List (Str×V)} {p q:Int}
theorem lv_no (h1:σ[1]?=some (some (.ref c))) (h2:H c=some (.ins C dx fs)) (k:Cls K C) (na:NoAttr K C "number") (hl:fs.lookup ("number":Str)=some (.int p)) (hne:p≠q) (h:u D σ H):tSeq (tIfS (tTest (tOp rEq (tFld K (tVar 1) "number") (tC (.int q)))) t tNext) u D σ H:=
 ⟨_,h1,c,C,dx,fs,_,rfl,h2,k,na,hl,rfl,_,rfl,ite2 (fun e=>absurd (V.int.inj (of_decide_eq_true e)) hne) fun _=>h⟩
theorem J3 (h1:σ[1]?=some (some (.ref c))) (h2:H c=some (.ins C dx fs)) (k:Cls K C) (na:NoAttr K C "number") (hl:fs.lookup ("number":Str)=some (.int p)) (h:t { D with nx:=u D } σ H):tSeq (tIfS (tTest (tOp rEq (tFld K (tVar 1) "number") (tC (.int p)))) t tNext) u D σ H:=
 ⟨_,h1,c,C,dx,fs,_,rfl,h2,k,na,hl,rfl,_,rfl,ite2 (fun _=>h) fun e=>absurd (decide_eq_true rfl) e⟩
end
def SPost (t:Adr) (M:List Addr) (H:Hp) (d:Addr) (a:VA) (y:Md33.St×List Int) (Q:VK):Prop:=
 ∀r M' a' H',Qr (d::foot a) H H'→(∀z∈M,z∈M')→(∀z∈M',z∈M∨H z=none)→(∀z∈foot a',z∈foot a∨H z=none)→DeskO t M' H' d a' y.1→H' r=some (.lst (zvs y.2))→(H r=none∨r∈foot a)→Q (.ref r) H'
section
variable {P:Program} {w:World} {K:PySem.W.Frag} {mg:Str→Option Value} {base:Heap} {t:Adr}
def sp_Desk_answer (t:Adr):Sp:=fun vs H Q _=>∃(M:List Addr) (a:VA) (d c:Addr) (s:Option Md33.Book) (p:Int) (ns:List Int) (xs:List (List Int)),vs=[.ref d,.ref c]∧DeskO t M H d a s∧CallO t M H c p ns xs∧Md33Neutral.asked1 ((p::ns)::xs)=true∧(∀x∈xs,x.length≤100000)∧(s=none→p=1)∧SPost t M H d a (Md33Neutral.step s ((p::ns)::xs)) Q
theorem ok_Desk_answer (T:Txt K mg t):OkM P w K mg base 10 t.C_Desk "answer" ["self","call"] (sp_Desk_answer t):=by
 refine okM T.d_Desk_answer sc_Desk_answer (fun vs H Q E h=>?_) (fun f cdv A outer s H vs Q E hr h=>?_)
 ·obtain ⟨M,av,d,c,sB,p,ns,xs,rfl,hD,⟨dxc,an,bl,oc,ons,rs,orl,hrows⟩,h,hxl,hs1,q⟩:=h
  rfl
 ·obtain ⟨M,av,d,c,sB,p,ns,xs,rfl,hD,⟨dxc,an,bl,oc,ons,rs,orl,hrows⟩,h,hxl,hs1,q⟩:=h
  refine ⟨_,(Zb (Zo (i:=2) sc_Desk_answer.nd rfl (Or.inl rfl) (Zi (K:=K) rfl (pv 1) rfl))
   (Zb (Zo (i:=3) sc_Desk_answer.nd rfl (Or.inl rfl) (Zi (K:=K) rfl (pv 1) rfl))
   (Zb (Z4 (Zu Jq (Zi (K:=K) rfl (pv 1) rfl) (pgi rfl T.c_NEW) (Qv _)) (Ze (Zj (pm (pv 0) T.k_Desk (ok_Desk_answer_new T) hr (Za (Zx (Zl (K:=K) rfl) (pv 2) Zf (fun _ _=>rfl)) (Za (Zx (Zl (K:=K) rfl) (pv 3) Zf (fun _ _=>rfl)) (Za (Zx (Zl (K:=K) rfl) (pv 3) Zf (fun _ _=>rfl)) Zd)))))) Zr)
   (Zb (Z4 (Zu Jq (Zi (K:=K) rfl (pv 1) rfl) (pgi rfl T.c_PUT_book) (Qv _)) (Ze (Zj (pm (pv 0) T.k_Desk (ok_Desk_answer_put T) hr (Za (pv 2) (Za (Zx (Zl (K:=K) rfl) (pv 3) Zf (fun _ _=>rfl)) (Za (Zx (Zl (K:=K) rfl) (pv 3) Zf (fun _ _=>rfl)) Zd)))))) Zr)
   (Zb (Z4 (Zu Jq (Zi (K:=K) rfl (pv 1) rfl) (pgi rfl T.c_DROP_book) (Qv _)) (Ze (Zj (pm (pv 0) T.k_Desk (ok_Desk_answer_drop T) hr (Za (Zx (Zl (K:=K) rfl) (pv 2) Zf (fun _ _=>rfl)) (Za (Zx (Zl (K:=K) rfl) (pv 3) Zf (fun _ _=>rfl)) Zd))))) Zr)
   (Zb (Z4 (Zu Jq (Zi (K:=K) rfl (pv 1) rfl) (pgi rfl T.c_BACK_book) (Qv _)) (Ze (Zj (pm (pv 0) T.k_Desk (ok_Desk_answer_back T) hr (Za (Zx (Zl (K:=K) rfl) (pv 2) Zf (fun _ _=>rfl)) Zd)))) Zr)
   (Zb (Z4 (Zu Jq (Zi (K:=K) rfl (pv 1) rfl) (pgi rfl T.c_GET) (Qv _)) (Ze (Zj (pm (pv 0) T.k_Desk (ok_Desk_answer_get T) hr (Za (Zx (Zl (K:=K) rfl) (pv 2) Zf (fun _ _=>rfl)) (Za (Zx (Zl (K:=K) rfl) (pv 3) Zf (fun _ _=>rfl)) Zd))))) Zr)
   (Zb (Z4 (Zu Jq (Zi (K:=K) rfl (pv 1) rfl) (pgi rfl T.c_NAMES) (Qv _)) (Ze (Zj (pm (pv 0) T.k_Desk (ok_Desk_answer_names T) hr (Za (Zx (Zl (K:=K) rfl) (pv 2) Zf (fun _ _=>rfl)) (Za (Zx (Zl (K:=K) rfl) (pv 2) Zf (fun _ _=>rfl)) Zd))))) Zr)
   (Zb (Z4 (Zu Jq (Zi (K:=K) rfl (pv 1) rfl) (pgi rfl T.c_VERSION) (Qv _)) (Ze (Zj (pm (pv 0) T.k_Desk (ok_Desk_answer_version T) hr (Za (Zx (Zl (K:=K) rfl) (pv 2) Zf (fun _ _=>rfl)) (Za (Zx (Zl (K:=K) rfl) (pv 2) Zf (fun _ _=>rfl)) (Za (Zx (Zl (K:=K) rfl) (pv 3) Zf (fun _ _=>rfl)) Zd)))))) Zr)
   (Zb (Z4 (Zu Jq (Zi (K:=K) rfl (pv 1) rfl) (pgi rfl T.c_BYTES) (Qv _)) (Ze (Zj (pm (pv 0) T.k_Desk (ok_Desk_answer_bytes T) hr (Za (Zx (Zl (K:=K) rfl) (pv 2) Zf (fun _ _=>rfl)) (Za (Zx (Zl (K:=K) rfl) (pv 2) Zf (fun _ _=>rfl)) Zd))))) Zr)
   (Zb (Z4 (Zu Jq (Zi (K:=K) rfl (pv 1) rfl) (pgi rfl T.c_READ) (Qv _)) (Ze (Zj (pm (pv 0) T.k_Desk (ok_Desk_answer_read T) hr (Za (Zx (Zl (K:=K) rfl) (pv 2) Zf (fun _ _=>rfl)) (Za (Zx (Zl (K:=K) rfl) (pv 2) Zf (fun _ _=>rfl)) (Za (Zx (Zl (K:=K) rfl) (pv 3) Zf (fun _ _=>rfl)) (Za (Zx (Zl (K:=K) rfl) (pv 3) Zf (fun _ _=>rfl)) Zd))))))) Zr)
   (Zb (Z4 (Zu Jq (Zi (K:=K) rfl (pv 1) rfl) (pgi rfl T.c_ALIKE) (Qv _)) (Ze (Zj (pm (pv 0) T.k_Desk (ok_Desk_answer_alike T) hr (Za (Zx (Zl (K:=K) rfl) (pv 2) Zf (fun _ _=>rfl)) (Za (Zx (Zl (K:=K) rfl) (pv 3) Zf (fun _ _=>rfl)) Zd))))) Zr)
   (Zb (Z4 (Zu Jq (Zi (K:=K) rfl (pv 1) rfl) (pgi rfl T.c_SQUEEZE) (Qv _)) (Ze (Zj (Zz (Za (pm0 (Zi (K:=K) rfl (pv 0) rfl) T.k_Volume (ok_Volume_squeeze T) hr) Zd)))) Zr)
   (Zb (Z4 (Zu Jq (Zi (K:=K) rfl (pv 1) rfl) (pgi rfl T.c_SUM) (Qv _)) (Ze (Zj (pm (pv 0) T.k_Desk (ok_Desk_answer_sum T) hr (Za (Zx (Zl (K:=K) rfl) (pv 2) Zf (fun _ _=>rfl)) (Za (Zx (Zl (K:=K) rfl) (pv 3) Zf (fun _ _=>rfl)) Zd))))) Zr)
   (Zb (Z4 (Zu Jq (Zi (K:=K) rfl (pv 1) rfl) (pgi rfl T.c_STATE) (Qv _)) (Ze (Zj (pm0 (pv 0) T.k_Desk (ok_Desk_answer_state T) hr))) Zr)
   (Ze ps_never)))))))))))))))),?_⟩
  obtain ⟨dxd,f,od⟩:∃dxd f,H d=some (.ins t.C_Desk dxd [("volume",f)]):=by
   cases sB with
   | none=>obtain ⟨⟨dx,h⟩,_⟩:=hD;exact ⟨dx,_,h⟩
   | some b=>obtain ⟨⟨dx,h⟩,_⟩:=hD;exact ⟨dx,_,h⟩
  refine ⟨_,rfl,_,_,_,_,_,rfl,oc.1,T.k_Call,T.na_Call_numbers,rfl,_,rfl,_,_,_,_,_,rfl,oc.1,T.k_Call,T.na_Call_lists,rfl,?_⟩
  generalize hcc:(p::ns)::xs=cc at h q
  replace h:=form h
  cases h
  ·rename_i a l k w2 w3 w4 w5
   cases hcc
   cases hrows with
   | @cons r0 _ _ _ o0 hrows=>
    cases hrows with
    | @cons r1 _ _ _ o1 hrows=>
     cases hrows
     obtain ⟨bl1,bl2,bl3⟩:=Z9 w2
     obtain ⟨bk1,bk2,bk3⟩:=Z9 w4
     rw[bl1] at o0
     rw[bk1] at o1
     refine J3 rfl oc.1 T.k_Call T.na_Call_number rfl ?_
     refine ⟨_,rfl,d,dxd,_,rfl,od,rfl,_,rfl,an,_,_,_,rfl,rfl,SqL.of ons.1,at_i (j:=0) (by simp) rfl,_,rfl,bl,_,_,_,rfl,rfl,SqL.of orl.1,(show atI _ _=some (V.ref r0) from rfl),_,rfl,bl,_,_,_,rfl,rfl,SqL.of orl.1,(show atI _ _=some (V.ref r1) from rfl),M,av,d,r0,r1,sB,a,_,_,rfl,hD,o0.1,o1.1,⟨by rw[bl3,w3],bl2⟩,fun e=>⟨?_,bk2⟩,fun e=>?_,q⟩
     ·rw[bk3]
      unfold Md33Neutral.keyLen at w5
      rw[if_pos e] at w5
      omega
     ·unfold Md33Neutral.keyLen at w5
      rw[if_neg e] at w5
      have:k=[]:=List.eq_nil_of_length_eq_zero (by omega)
      rw[this];rfl
  ·rename_i a n m l r w4 w5 w6
   cases hcc
   cases hrows with
   | @cons r0 _ _ _ o0 hrows=>
    cases hrows with
    | @cons r1 _ _ _ o1 hrows=>
     cases hrows
     obtain ⟨bl1,bl2,bl3⟩:=Z9 w4
     obtain ⟨bk1,bk2,bk3⟩:=Z9 w5
     rw[bl1] at o0
     rw[bk1] at o1
     cases sB with
     | none=>exact absurd (hs1 rfl) (by decide)
     | some b=>
      refine lv_no rfl oc.1 T.k_Call T.na_Call_number rfl (by decide) ?_
      refine J3 rfl oc.1 T.k_Call T.na_Call_number rfl ?_
      refine ⟨_,rfl,d,dxd,_,rfl,od,rfl,_,rfl,_,rfl,bl,_,_,_,rfl,rfl,SqL.of orl.1,(show atI _ _=some (V.ref r0) from rfl),_,rfl,bl,_,_,_,rfl,rfl,SqL.of orl.1,(show atI _ _=some (V.ref r1) from rfl),M,av,d,an,r0,r1,b,a,n,m,_,_,rfl,hD,ons.1,o0,o1,fun z1 z2 z3=>?_,q⟩
      have y1:0≤a∧a≤255:=Y7 z1
      have y2:1≤n∧n≤64:=Y7 z2
      have y3:0≤m∧m≤65536:=Y7 z3
      rw[if_pos ⟨z1,y2.1,y2.2,y3.1,y3.2⟩] at w6
      exact ⟨by omega,bl2,bk2,by rw[bl3];omega,by rw[bl3];unfold Md33.NAME;omega,by rw[bk3];unfold Md33.BODY;omega⟩
  ·rename_i n l w2 w3
   cases hcc
   cases hrows with
   | @cons r0 _ _ _ o0 hrows=>
    cases hrows
    obtain ⟨bl1,bl2,bl3⟩:=Z9 w2
    rw[bl1] at o0
    cases sB with
    | none=>exact absurd (hs1 rfl) (by decide)
    | some b=>
     iterate 2 refine lv_no rfl oc.1 T.k_Call T.na_Call_number rfl (by decide) ?_
     refine J3 rfl oc.1 T.k_Call T.na_Call_number rfl ?_
     refine ⟨_,rfl,d,dxd,_,rfl,od,rfl,_,rfl,an,_,_,_,rfl,rfl,SqL.of ons.1,at_i (j:=0) (by simp) rfl,_,rfl,bl,_,_,_,rfl,rfl,SqL.of orl.1,(show atI _ _=some (V.ref r0) from rfl),M,av,d,r0,b,n,_,rfl,hD,o0,fun z1=>?_,q⟩
     have y1:1≤n∧n≤64:=Y7 z1
     have y2:=long_len w3 y1
     exact ⟨bl2,by rw[bl3];omega,by rw[bl3];unfold Md33.NAME;omega⟩
  ·rename_i a
   cases hcc
   cases hrows
   cases sB with
   | none=>exact absurd (hs1 rfl) (by decide)
   | some b=>
    iterate 3 refine lv_no rfl oc.1 T.k_Call T.na_Call_number rfl (by decide) ?_
    refine J3 rfl oc.1 T.k_Call T.na_Call_number rfl ?_
    exact ⟨_,rfl,d,dxd,_,rfl,od,rfl,_,rfl,an,_,_,_,rfl,rfl,SqL.of ons.1,at_i (j:=0) (by simp) rfl,M,av,d,b,a,rfl,hD,q⟩
  ·rename_i n l w2
   cases hcc
   cases hrows with
   | @cons r0 _ _ _ o0 hrows=>
    cases hrows
    obtain ⟨bl1,bl2,bl3⟩:=Z9 w2
    rw[bl1] at o0
    cases sB with
    | none=>exact absurd (hs1 rfl) (by decide)
    | some b=>
     iterate 4 refine lv_no rfl oc.1 T.k_Call T.na_Call_number rfl (by decide) ?_
     refine J3 rfl oc.1 T.k_Call T.na_Call_number rfl ?_
     exact ⟨_,rfl,d,dxd,_,rfl,od,rfl,_,rfl,an,_,_,_,rfl,rfl,SqL.of ons.1,at_i (j:=0) (by simp) rfl,_,rfl,bl,_,_,_,rfl,rfl,SqL.of orl.1,(show atI _ _=some (V.ref r0) from rfl),M,av,d,r0,b,n,_,rfl,hD,o0.1,q⟩
  ·rename_i a a'
   cases hcc
   cases hrows
   cases sB with
   | none=>exact absurd (hs1 rfl) (by decide)
   | some b=>
    iterate 5 refine lv_no rfl oc.1 T.k_Call T.na_Call_number rfl (by decide) ?_
    refine J3 rfl oc.1 T.k_Call T.na_Call_number rfl ?_
    exact ⟨_,rfl,d,dxd,_,rfl,od,rfl,_,rfl,an,_,_,_,rfl,rfl,SqL.of ons.1,at_i (j:=0) (by simp) rfl,_,rfl,an,_,_,_,rfl,rfl,SqL.of ons.1,at_i (j:=1) (by simp) rfl,M,av,d,b,a,a',rfl,hD,q⟩
  ·rename_i a n l w2
   cases hcc
   cases hrows with
   | @cons r0 _ _ _ o0 hrows=>
    cases hrows
    obtain ⟨bl1,bl2,bl3⟩:=Z9 w2
    rw[bl1] at o0
    cases sB with
    | none=>exact absurd (hs1 rfl) (by decide)
    | some b=>
     iterate 6 refine lv_no rfl oc.1 T.k_Call T.na_Call_number rfl (by decide) ?_
     refine J3 rfl oc.1 T.k_Call T.na_Call_number rfl ?_
     exact ⟨_,rfl,d,dxd,_,rfl,od,rfl,_,rfl,an,_,_,_,rfl,rfl,SqL.of ons.1,at_i (j:=0) (by simp) rfl,_,rfl,an,_,_,_,rfl,rfl,SqL.of ons.1,at_i (j:=1) (by simp) rfl,_,rfl,bl,_,_,_,rfl,rfl,SqL.of orl.1,(show atI _ _=some (V.ref r0) from rfl),M,av,d,r0,b,a,n,_,rfl,hD,o0.1,q⟩
  ·rename_i a a'
   cases hcc
   cases hrows
   cases sB with
   | none=>exact absurd (hs1 rfl) (by decide)
   | some b=>
    iterate 7 refine lv_no rfl oc.1 T.k_Call T.na_Call_number rfl (by decide) ?_
    refine J3 rfl oc.1 T.k_Call T.na_Call_number rfl ?_
    exact ⟨_,rfl,d,dxd,_,rfl,od,rfl,_,rfl,an,_,_,_,rfl,rfl,SqL.of ons.1,at_i (j:=0) (by simp) rfl,_,rfl,an,_,_,_,rfl,rfl,SqL.of ons.1,at_i (j:=1) (by simp) rfl,M,av,d,b,a,a',rfl,hD,q⟩
  ·rename_i a m k l w3 w4 w5
   cases hcc
   cases hrows with
   | @cons r0 _ _ _ o0 hrows=>
    cases hrows with
    | @cons r1 _ _ _ o1 hrows=>
     cases hrows
     obtain ⟨bl1,bl2,bl3⟩:=Z9 w5
     obtain ⟨bk1,bk2,bk3⟩:=Z9 w3
     rw[bk1] at o0
     rw[bl1] at o1
     cases sB with
     | none=>exact absurd (hs1 rfl) (by decide)
     | some b=>
      iterate 8 refine lv_no rfl oc.1 T.k_Call T.na_Call_number rfl (by decide) ?_
      refine J3 rfl oc.1 T.k_Call T.na_Call_number rfl ?_
      have hll:l.length≤100000:=hxl l (by simp)
      refine ⟨_,rfl,d,dxd,_,rfl,od,rfl,_,rfl,an,_,_,_,rfl,rfl,SqL.of ons.1,at_i (j:=0) (by simp) rfl,_,rfl,an,_,_,_,rfl,rfl,SqL.of ons.1,at_i (j:=1) (by simp) rfl,_,rfl,bl,_,_,_,rfl,rfl,SqL.of orl.1,(show atI _ _=some (V.ref r0) from rfl),_,rfl,bl,_,_,_,rfl,rfl,SqL.of orl.1,(show atI _ _=some (V.ref r1) from rfl),M,av,d,r0,r1,b,a,m,_,_,rfl,hD,o0.1,o1,fun e=>⟨?_,bk2⟩,fun e=>?_,bl2,by rw[bl3];omega,q⟩
      ·rw[bk3]
       unfold Md33Neutral.keyLen at w4
       rw[if_pos e] at w4
       omega
      ·unfold Md33Neutral.keyLen at w4
       rw[if_neg e] at w4
       have:k=[]:=List.eq_nil_of_length_eq_zero (by omega)
       rw[this];rfl
  ·rename_i m l w2
   cases hcc
   cases hrows with
   | @cons r0 _ _ _ o0 hrows=>
    cases hrows
    obtain ⟨bl1,bl2,bl3⟩:=Z9 w2
    rw[bl1] at o0
    cases sB with
    | none=>exact absurd (hs1 rfl) (by decide)
    | some b=>
     iterate 9 refine lv_no rfl oc.1 T.k_Call T.na_Call_number rfl (by decide) ?_
     refine J3 rfl oc.1 T.k_Call T.na_Call_number rfl ?_
     exact ⟨_,rfl,d,dxd,_,rfl,od,rfl,_,rfl,an,_,_,_,rfl,rfl,SqL.of ons.1,at_i (j:=0) (by simp) rfl,_,rfl,bl,_,_,_,rfl,rfl,SqL.of orl.1,(show atI _ _=some (V.ref r0) from rfl),M,av,d,r0,b,m,_,rfl,hD,o0.1,q⟩
  ·skip
   cases hcc
   cases hrows
   cases sB with
   | none=>exact absurd (hs1 rfl) (by decide)
   | some b=>
    iterate 10 refine lv_no rfl oc.1 T.k_Call T.na_Call_number rfl (by decide) ?_
    refine J3 rfl oc.1 T.k_Call T.na_Call_number rfl ?_
    obtain ⟨⟨dxd',od'⟩,X,hdM⟩:=id hD
    obtain ⟨es,L,X0,g⟩:=X.ex
    obtain ⟨dx,sv,ov,os⟩:=X0.ov
    refine ⟨_,rfl,_,_,_,_,_,rfl,od',T.k_Desk,T.na_Desk_volume,rfl,av.v,dx,_,rfl,ov,rfl,M,av,b,rfl,X,fun a' M' H1 hav k1 hMs1 hM1 hfo1 X1=>⟨(show 1≤sizeLine by decide),fun p nr=>?_⟩⟩
    have s2:=Zk (o:=.lst [nV (Md33.squeezed b).count]) nr
    have hdM':d∉M':=fun z=>by
     rcases hM1 d z with e|e
     ·exact hdM e
     ·rw[od'] at e;cases e
    exact q p M' a' _ ((k1.mono fun y hy=>List.mem_cons_of_mem _ hy).trans (.of_same s2)) hMs1 hM1 hfo1 ⟨⟨dxd',s2 _ _ (by rw[hav];exact k1 _ _ (fun z=>hdM (Ju X0 _ z)) od')⟩,X1.same s2,hdM'⟩ Zc (fresh_or k1 nr)
  ·rename_i m l w2
   cases hcc
   cases hrows with
   | @cons r0 _ _ _ o0 hrows=>
    cases hrows
    obtain ⟨bl1,bl2,bl3⟩:=Z9 w2
    rw[bl1] at o0
    cases sB with
    | none=>exact absurd (hs1 rfl) (by decide)
    | some b=>
     iterate 11 refine lv_no rfl oc.1 T.k_Call T.na_Call_number rfl (by decide) ?_
     refine J3 rfl oc.1 T.k_Call T.na_Call_number rfl ?_
     have hll:l.length≤100000:=hxl l (by simp)
     exact ⟨_,rfl,d,dxd,_,rfl,od,rfl,_,rfl,an,_,_,_,rfl,rfl,SqL.of ons.1,at_i (j:=0) (by simp) rfl,_,rfl,bl,_,_,_,rfl,rfl,SqL.of orl.1,(show atI _ _=some (V.ref r0) from rfl),M,av,d,r0,b,m,_,rfl,hD,o0.1,bl2,by rw[bl3];exact hll,q⟩
  ·skip
   cases hcc
   cases hrows
   cases sB with
   | none=>exact absurd (hs1 rfl) (by decide)
   | some b=>
    iterate 12 refine lv_no rfl oc.1 T.k_Call T.na_Call_number rfl (by decide) ?_
    refine J3 rfl oc.1 T.k_Call T.na_Call_number rfl ?_
    exact ⟨_,rfl,d,dxd,_,rfl,od,rfl,M,av,d,b,rfl,hD,q⟩
end
end Kb
namespace Kb
open Md33
theorem enter_out (b:Book) (e:Entry) (no:Int):(enter b e no).2.out=[]∧(enter b e no).1.isSome=true:=by
 unfold enter
 split
 ·exact ⟨rfl,rfl⟩
 ·split
  ·exact ⟨rfl,rfl⟩
  ·exact ⟨rfl,rfl⟩
theorem rec_le:∀{l:List Record} {r:Record},r∈l→recLen r≤weight l
 | x::l,r,h=>by
  rw[Ya]
  rcases List.mem_cons.mp h with e|h
  ·rw[e];omega
  ·have:=rec_le h;omega
theorem weight_drop (l:List Record):∀i:Nat,weight (l.drop i)≤weight l:=by
 induction l with
 | nil=>intro i;simp[weight]
 | cons r l ih=>
  intro i
  cases i with
  | zero=>exact Nat.le_refl _
  | succ i=>
   rw[List.drop_succ_cons,Ya]
   have:=ih i
   omega
theorem flat_weight:∀l:List Record,(l.flatMap nameRow).length≤weight l
 | []=>Nat.le_refl _
 | r::l=>by
  rw[List.flatMap_cons,List.length_append,nameRow_len,Ya]
  have h1:=flat_weight l
  have h2:4+r.name.length≤recLen r:=by unfold recLen Qu blocks;omega
  omega
theorem Runs.ent {key:Option Bytes} {salt bs:Bytes} {es:List Entry} {L:List Nat} (h:Runs key salt bs es L):∀e∈es,Qu e.plain.length≤bs.length:=by
 induction h with
 | nil _=>intro e he;cases he
 | snoc e h hf hl ih=>
  intro x hx
  rw[List.length_append]
  rcases List.mem_append.mp hx with hx|hx
  ·have:=ih x hx;omega
  ·rw[List.mem_singleton.mp hx,hl];omega
theorem ints_len (l:Bytes):(Md33.ints l).length=l.length:=by unfold Md33.ints;rw[List.length_map]
theorem ans_len {b:Book} {es:List Entry} {L:List Nat} (g:GB b es L) (q:Call):(answer (some b) q).2.out.length≤b.bytes.length+25:=by
 have hst:b.stand∈b.stands:=Yb g.good.ne
 have hw:=(g.good.st _ hst).wt
 cases q with
 | new_ shut salt key=>
  show (if _ then _ else _:St×Ans).2.out.length≤_
  split<;>exact Nat.zero_le _
 | put kind n m name body=>
  show (if _ then _ else _:St×Ans).2.out.length≤_
  split
  ·exact Nat.zero_le _
  ·rw[(enter_out _ _ _).1];exact Nat.zero_le _
 | drop n name=>
  show (if _ then _ else _:St×Ans).2.out.length≤_
  split
  ·exact Nat.zero_le _
  ·rw[(enter_out _ _ _).1];exact Nat.zero_le _
 | back k=>
  show (if _ then _ else _:St×Ans).2.out.length≤_
  split
  ·exact Nat.zero_le _
  ·rw[(enter_out _ _ _).1];exact Nat.zero_le _
 | get n name=>
  show (if _ then _ else _:St×Ans).2.out.length≤_
  split
  ·exact Nat.zero_le _
  ·cases hf:b.stand.find name with
   | none=>exact Nat.zero_le _
   | some r=>
    have h1:=rec_le (find_some hf).1
    show ((r.number:Int)::Md33.ints r.body).length≤_
    rw[List.length_cons,ints_len]
    have h2:r.body.length≤recLen r:=by unfold recLen Qu blocks;omega
    omega
 | names a c=>
  show (if _ then _ else _:St×Ans).2.out.length≤_
  split
  ·exact Nat.zero_le _
  ·show (((b.stand.records.drop a.toNat).take c.toNat).flatMap nameRow).length≤_
   have h1:=flat_weight ((b.stand.records.drop a.toNat).take c.toNat)
   have h2:=weight_take (b.stand.records.drop a.toNat) c.toNat
   have h3:=weight_drop b.stand.records a.toNat
   omega
 | version k n name=>
  show (if _ then _ else _:St×Ans).2.out.length≤_
  split
  ·exact Nat.zero_le _
  ·cases hf:(versions b.stand name)[k.toNat]? with
   | none=>exact Nat.zero_le _
   | some y=>
    show ((y.1:Int)::(y.2.1:Int)::Md33.ints y.2.2).length≤_
    rw[List.length_cons,List.length_cons,ints_len]
    have hm:y∈versions b.stand name:=List.mem_of_getElem? hf
    rw[versions_eq] at hm
    obtain ⟨u,hu,hvf⟩:=List.mem_filterMap.mp hm
    have hu':=List.mem_reverse.mp hu
    have he:=g.ways _ hst u hu'
    have hle:=g.runs.ent _ (List.mem_of_getElem? he)
    obtain ⟨n',e⟩:=u
    cases e with
    | put kind nm body=>
     have hvf':(if nm=name then some (kind,n',body) else none)=some y:=hvf
     split at hvf'
     ·cases hvf'
      have h2:body.length≤Qu (Entry.put kind nm body).plain.length:=by
       rw[plain_put]
       unfold Qu blocks
       omega
      show body.length+1+1≤_
      have hle':Qu (Entry.put kind nm body).plain.length≤b.bytes.length:=hle
      omega
     ·cases hvf'
    | drop nm=>cases hvf
    | back k'=>cases hvf
 | bytes a n=>
  show (if _ then _ else _:St×Ans).2.out.length≤_
  split
  ·exact Nat.zero_le _
  ·show (Md33.ints ((b.bytes.drop a.toNat).take n.toNat)).length≤_
   rw[ints_len,List.length_take,List.length_drop]
   omega
 | read shut m key r=>
  show (if _ then _ else _:St×Ans).2.out.length≤_
  split
  ·exact Nat.zero_le _
  ·cases hr:readBook (if shut=1 then some key else none) r with
   | error v=>exact Nat.zero_le _
   | ok y=>obtain ⟨c,why⟩:=y;show 2≤_;omega
 | alike m r=>
  show (if _ then _ else _:St×Ans).2.out.length≤_
  split
  ·exact Nat.zero_le _
  ·show 1≤_;omega
 | squeeze=>exact Nat.zero_le _
 | sum m r=>
  show (if _ then _ else _:St×Ans).2.out.length≤_
  split
  ·exact Nat.zero_le _
  ·show (Md33.ints (sum r)).length≤_
   rw[ints_len,Xo]
   omega
 | state=>
  show ([(b.bytes.length:Int),(b.count:Int),(b.stand.records.length:Int)]++Md33.ints b.last).length≤_
  rw[List.length_append,ints_len,last_length g.good.len]
  show 3+20≤_
  omega
theorem ans_some (b:Book) (q:Call):(answer (some b) q).1.isSome=true:=by
 cases q with
 | new_ shut salt key=>
  show (if _ then _ else _:St×Ans).1.isSome=true
  split<;>rfl
 | put kind n m name body=>
  show (if _ then _ else _:St×Ans).1.isSome=true
  split
  ·rfl
  ·exact (enter_out _ _ _).2
 | drop n name=>
  show (if _ then _ else _:St×Ans).1.isSome=true
  split
  ·rfl
  ·exact (enter_out _ _ _).2
 | back k=>
  show (if _ then _ else _:St×Ans).1.isSome=true
  split
  ·rfl
  ·exact (enter_out _ _ _).2
 | get n name=>
  show (if _ then _ else _:St×Ans).1.isSome=true
  split
  ·rfl
  ·cases hf:b.stand.find name<;>rfl
 | names a c=>
  show (if _ then _ else _:St×Ans).1.isSome=true
  split<;>rfl
 | version k n name=>
  show (if _ then _ else _:St×Ans).1.isSome=true
  split
  ·rfl
  ·cases hf:(versions b.stand name)[k.toNat]?<;>rfl
 | bytes a n=>
  show (if _ then _ else _:St×Ans).1.isSome=true
  split<;>rfl
 | read shut m key r=>
  show (if _ then _ else _:St×Ans).1.isSome=true
  split
  ·rfl
  ·cases hr:readBook (if shut=1 then some key else none) r with
   | error v=>rfl
   | ok y=>rfl
 | alike m r=>
  show (if _ then _ else _:St×Ans).1.isSome=true
  split<;>rfl
 | squeeze=>rfl
 | sum m r=>
  show (if _ then _ else _:St×Ans).1.isSome=true
  split<;>rfl
 | state=>rfl
def sz:St→Nat
 | none=>0
 | some b=>b.bytes.length
theorem enter_sz {b:Book} (g:Good b) {e:Entry} (hf:e.fits) (no:Int):sz (enter b e no).1≤b.bytes.length+Qu e.plain.length:=by
 unfold enter
 cases h:added b e with
 | none=>exact Nat.le_add_right _ _
 | some c=>
  dsimp only
  split
  ·exact Nat.le_add_right _ _
  ·show c.bytes.length≤_
   rw[(good_added g hf h).2.2]
   exact Nat.le_refl _
theorem begun_sz {key:Option Bytes} {salt:Bytes} (hk:∀k,key=some k→B16 k) (hs:B16 salt):(begun key salt).bytes.length=44:=(J4 hk hs).1
def lensX (xs:List (List Int)):Nat:=(xs.map List.length).sum
theorem step_size {s:St} (hg:∀b,s=some b→∃es L,GB b es L∧b.bytes.length≤1048576) {c:List (List Int)} (h:Md33Neutral.asked1 c=true):sz (Md33Neutral.step s c).1≤sz s+46+lensX (c.drop 1):=by
 replace h:=form h
 cases h
 ·rename_i a l k w2 w3 w4 w5
  obtain ⟨bl1,bl2,bl3⟩:=Z9 w2
  obtain ⟨bk1,bk2,bk3⟩:=Z9 w4
  have hk1:a=1→B16 (Md33Neutral.nats k):=fun e=>⟨by rw[bk3];unfold Md33Neutral.keyLen at w5;rw[if_pos e] at w5;omega,bk2⟩
  have ha:answer s (.new_ a (Md33Neutral.nats l) (Md33Neutral.nats k))=if within a 0 1=false then (s,only (-8)) else (some (begun (keyOf a (Md33Neutral.nats k)) (Md33Neutral.nats l)),only 0):=by cases s<;>rfl
  show sz (answer s (.new_ a (Md33Neutral.nats l) (Md33Neutral.nats k))).1≤_
  rw[ha]
  split
  ·show sz s≤sz s+46+_
   omega
  ·show (begun (keyOf a (Md33Neutral.nats k)) (Md33Neutral.nats l)).bytes.length≤_
   rw[begun_sz (key_keyOf hk1) ⟨by rw[bl3,w3],bl2⟩]
   omega
 ·rename_i a n m l r w4 w5 w6
  obtain ⟨bl1,bl2,bl3⟩:=Z9 w4
  obtain ⟨bk1,bk2,bk3⟩:=Z9 w5
  cases s with
  | none=>exact Nat.zero_le _
  | some b=>
   obtain ⟨es,L,g,hl⟩:=hg b rfl
   show sz (if _ then _ else _:St×Ans).1≤_
   split
   ·show b.bytes.length≤b.bytes.length+46+_
    omega
   ·rename_i hc
    have z1:within a 0 255=true:=by cases hz:within a 0 255 with
     | true=>rfl
     | false=>exact absurd (.inl hz) hc
    have z2:within n 1 64=true:=by cases hz:within n 1 64 with
     | true=>rfl
     | false=>exact absurd (.inr (.inl hz)) hc
    have z3:within m 0 65536=true:=by cases hz:within m 0 65536 with
     | true=>rfl
     | false=>exact absurd (.inr (.inr hz)) hc
    have y1:0≤a∧a≤255:=Y7 z1
    have y2:1≤n∧n≤64:=Y7 z2
    have y3:0≤m∧m≤65536:=Y7 z3
    rw[if_pos ⟨z1,y2.1,y2.2,y3.1,y3.2⟩] at w6
    have hf:(Entry.put a.toNat (Md33Neutral.nats l) (Md33Neutral.nats r)).fits:=⟨by omega,bl2,bk2,by rw[bl3];omega,by rw[bl3];unfold NAME;omega,by rw[bk3];unfold BODY;omega⟩
    refine Nat.le_trans (enter_sz g.good hf _) ?_
    rw[plain_put,bl3,bk3]
    show _≤b.bytes.length+46+(l.length+(r.length+0))
    unfold Qu blocks
    omega
 ·rename_i n l w2 w3
  obtain ⟨bl1,bl2,bl3⟩:=Z9 w2
  cases s with
  | none=>exact Nat.zero_le _
  | some b=>
   obtain ⟨es,L,g,hl⟩:=hg b rfl
   show sz (if _ then _ else _:St×Ans).1≤_
   split
   ·show b.bytes.length≤b.bytes.length+46+_
    omega
   ·rename_i hc
    have z1:within n 1 64=true:=by cases hz:within n 1 64 with
     | true=>rfl
     | false=>exact absurd hz hc
    have y1:1≤n∧n≤64:=Y7 z1
    have y2:=long_len w3 y1
    have hf:(Entry.drop (Md33Neutral.nats l)).fits:=⟨bl2,by rw[bl3];omega,by rw[bl3];unfold NAME;omega⟩
    refine Nat.le_trans (enter_sz g.good hf _) ?_
    show b.bytes.length+Qu (2::(Md33Neutral.nats l).length::Md33Neutral.nats l).length≤b.bytes.length+46+(l.length+0)
    rw[List.length_cons,List.length_cons,bl3]
    unfold Qu blocks
    omega
 ·rename_i a
  cases s with
  | none=>exact Nat.zero_le _
  | some b=>
   obtain ⟨es,L,g,hl⟩:=hg b rfl
   show sz (if _ then _ else _:St×Ans).1≤_
   split
   ·show b.bytes.length≤b.bytes.length+46+_
    omega
   ·rename_i hc
    have z1:within a 0 (b.count:Int)=true:=by cases hz:within a 0 (b.count:Int) with
     | true=>rfl
     | false=>exact absurd hz hc
    have y1:=Y7 z1
    obtain ⟨f1,f2,f3⟩:=g.few hl
    have hf:(Entry.back a.toNat).fits:=by
     show a.toNat<2^32
     have:a.toNat≤40000:=by omega
     exact Nat.lt_of_le_of_lt this (by decide)
    refine Nat.le_trans (enter_sz g.good hf _) ?_
    show b.bytes.length+Qu (3::low 4 a.toNat).length≤b.bytes.length+46+0
    rw[List.length_cons,Zy]
    have:Qu (4+1)=44:=rfl
    omega
 ·rename_i n l w2
  cases s with
  | none=>exact Nat.zero_le _
  | some b=>
   obtain ⟨es,L,g,hl⟩:=hg b rfl
   show sz (if _ then _ else _:St×Ans).1≤_
   split
   ·show b.bytes.length≤_
    show b.bytes.length≤b.bytes.length+46+_
    omega
   ·cases hf:b.stand.find (Md33Neutral.nats l) with
    | none=>show b.bytes.length≤b.bytes.length+46+_;omega
    | some r=>show b.bytes.length≤b.bytes.length+46+_;omega
 ·rename_i a a'
  cases s with
  | none=>exact Nat.zero_le _
  | some b=>
   obtain ⟨es,L,g,hl⟩:=hg b rfl
   show sz (if _ then _ else _:St×Ans).1≤_
   split
   ·show b.bytes.length≤_
    show b.bytes.length≤b.bytes.length+46+_
    omega
   ·show b.bytes.length≤b.bytes.length+46+_
    omega
 ·rename_i a n l w2
  cases s with
  | none=>exact Nat.zero_le _
  | some b=>
   obtain ⟨es,L,g,hl⟩:=hg b rfl
   show sz (if _ then _ else _:St×Ans).1≤_
   split
   ·show b.bytes.length≤_
    show b.bytes.length≤b.bytes.length+46+_
    omega
   ·dsimp only
    cases hf:(versions b.stand (Md33Neutral.nats l))[a.toNat]? with
    | none=>show b.bytes.length≤b.bytes.length+46+_;omega
    | some r=>show b.bytes.length≤b.bytes.length+46+_;omega
 ·rename_i a a'
  cases s with
  | none=>exact Nat.zero_le _
  | some b=>
   obtain ⟨es,L,g,hl⟩:=hg b rfl
   show sz (if _ then _ else _:St×Ans).1≤_
   split
   ·show b.bytes.length≤_
    show b.bytes.length≤b.bytes.length+46+_
    omega
   ·show b.bytes.length≤b.bytes.length+46+_
    omega
 ·rename_i a m k l w3 w4 w5
  obtain ⟨bl1,bl2,bl3⟩:=Z9 w5
  obtain ⟨bk1,bk2,bk3⟩:=Z9 w3
  have hk1:a=1→B16 (Md33Neutral.nats k):=fun e=>⟨by rw[bk3];unfold Md33Neutral.keyLen at w4;rw[if_pos e] at w4;omega,bk2⟩
  cases s with
  | none=>exact Nat.zero_le _
  | some b=>
   obtain ⟨es,L,g,hl⟩:=hg b rfl
   show sz (if _ then _ else _:St×Ans).1≤_
   split
   ·show b.bytes.length≤b.bytes.length+46+_
    omega
   ·have hrd:readBook (if a=1 then some (Md33Neutral.nats k) else none) (Md33Neutral.nats l)=readBook (keyOf a (Md33Neutral.nats k)) (Md33Neutral.nats l):=rfl
    rw[hrd]
    cases hr:readBook (keyOf a (Md33Neutral.nats k)) (Md33Neutral.nats l) with
    | error v=>show b.bytes.length≤b.bytes.length+46+_;omega
    | ok y=>
     obtain ⟨c,why⟩:=y
     show c.bytes.length≤b.bytes.length+46+(k.length+(l.length+0))
     unfold readBook at hr
     split at hr
     ·cases hr
     ·rename_i h44
      dsimp only at hr
      split at hr
      ·cases hr
      ·have h44':44≤(Md33Neutral.nats l).length:=Nat.le_of_not_lt fun z=>h44 (.inl z)
       have hs:B16 (((Md33Neutral.nats l).drop 8).take 16):=⟨by rw[List.length_take,List.length_drop];omega,fun y hy=>bl2 y (List.mem_of_mem_drop (List.mem_of_mem_take hy))⟩
       have ht:=Except.ok.inj hr
       have:=(takes_good _ (good_begun (key_keyOf hk1) hs) (fun x hx=>bl2 x (List.mem_of_mem_drop hx)) ht).2
       rw[begun_sz (key_keyOf hk1) hs,List.length_drop] at this
       have h44e:HEAD=44:=rfl
       rw[bl3] at this h44'
       omega
 ·rename_i m l w2
  cases s with
  | none=>exact Nat.zero_le _
  | some b=>
   obtain ⟨es,L,g,hl⟩:=hg b rfl
   show sz (if _ then _ else _:St×Ans).1≤_
   split
   ·show b.bytes.length≤_
    show b.bytes.length≤b.bytes.length+46+_
    omega
   ·show b.bytes.length≤b.bytes.length+46+_
    omega
 ·skip
  cases s with
  | none=>exact Nat.zero_le _
  | some b=>
   obtain ⟨es,L,g,hl⟩:=hg b rfl
   show (squeezed b).bytes.length≤b.bytes.length+46+_
   rw[squeezed_eq]
   have:=sqTo_len g.good (Nat.le_refl b.stand.records.length)
   omega
 ·rename_i m l w2
  cases s with
  | none=>exact Nat.zero_le _
  | some b=>
   obtain ⟨es,L,g,hl⟩:=hg b rfl
   show sz (if _ then _ else _:St×Ans).1≤_
   split
   ·show b.bytes.length≤_
    show b.bytes.length≤b.bytes.length+46+_
    omega
   ·show b.bytes.length≤b.bytes.length+46+_
    omega
 ·skip
  cases s with
  | none=>exact Nat.zero_le _
  | some b=>
   obtain ⟨es,L,g,hl⟩:=hg b rfl
   show b.bytes.length≤b.bytes.length+46+_
   omega
theorem callOf_some {c:List (List Int)} (h:Md33Neutral.asked1 c=true):∃q,Md33Neutral.callOf c=some q:=by
 replace h:=form h
 cases h
 all_goals exact ⟨_,rfl⟩
theorem step_some {b:Book} {c:List (List Int)} (h:Md33Neutral.asked1 c=true):(Md33Neutral.step (some b) c).1.isSome=true:=by
 obtain ⟨q,hq⟩:=callOf_some h
 unfold Md33Neutral.step
 rw[hq]
 exact ans_some b q
theorem step_len {s:St} (hg:∀b,s=some b→∃es L,GB b es L∧b.bytes.length≤1048576) {c:List (List Int)} (h:Md33Neutral.asked1 c=true) (hn:s=none→∃a l k,c=[[1,a],l,k]):(Md33Neutral.step s c).2.length≤sz s+30:=by
 obtain ⟨q,hq⟩:=callOf_some h
 cases s with
 | none=>
  obtain ⟨a,l,k,rfl⟩:=hn rfl
  show (if _ then _ else _:St×Ans).2.out.length+1≤_
  split
  ·show 1≤_;omega
  ·show 1≤_;omega
 | some b=>
  obtain ⟨es,L,g,_⟩:=hg b rfl
  unfold Md33Neutral.step
  rw[hq]
  have:=ans_len g q
  show (answer (some b) q).2.out.length+1≤b.bytes.length+30
  omega
end Kb
namespace Kb
open PySem L2
abbrev CallL:=List (List Int)
def stAt (s:Md33.St) (l:List CallL):Md33.St:=l.foldl (fun s c=>(Md33Neutral.step s c).1) s
theorem stAt_snoc (s:Md33.St) (l:List CallL) (c:CallL):stAt s (l++[c])=(Md33Neutral.step (stAt s l) c).1:=by
 unfold stAt
 rw[List.foldl_append];rfl
def outAt:Md33.St→List CallL→List Int
 | _,[]=>[]
 | s,c::r=>((Md33Neutral.step s c).2.length:Int)::((Md33Neutral.step s c).2++outAt (Md33Neutral.step s c).1 r)
theorem outAt_snoc:∀(l:List CallL) (s:Md33.St) (c:CallL),outAt s (l++[c])=outAt s l++(((Md33Neutral.step (stAt s l) c).2.length:Int)::(Md33Neutral.step (stAt s l) c).2)
 | [],s,c=>by
  show _::(_++[])=[]++_
  rw[List.append_nil];rfl
 | x::l,s,c=>by
  rw[List.cons_append]
  show _::(_++outAt _ (l++[c]))=(_::(_++outAt _ l))++_
  rw[outAt_snoc l,List.cons_append,List.append_assoc]
  rfl
theorem told_out:∀(l:List CallL) (s:Md33.St),PyFlat.told (PyFlat.played Md33Neutral.step s l)=outAt s l
 | [],s=>rfl
 | c::l,s=>by
  show (((Md33Neutral.step s c).2::PyFlat.played Md33Neutral.step (Md33Neutral.step s c).1 l).flatMap fun a=>(a.length:Int)::a)=_
  rw[List.flatMap_cons]
  have:=told_out l (Md33Neutral.step s c).1
  unfold PyFlat.told at this
  rw[this]
  rfl
theorem enc_lens (p:Int) (ns:List Int) (xs:List (List Int)):lensX xs≤(encC ((p::ns)::xs)).length∧∀x∈xs,x.length≤(encC ((p::ns)::xs)).length:=by
 have h1:lensX xs≤(xs.flatMap encRow).length∧∀x∈xs,x.length≤(xs.flatMap encRow).length:=by
  induction xs with
  | nil=>exact ⟨Nat.le_refl _,fun x hx=>by cases hx⟩
  | cons x xs ih=>
   have e:(encRow x).length=x.length+1:=rfl
   constructor
   ·unfold lensX at ih ⊢
    rw[List.map_cons,List.sum_cons,List.flatMap_cons,List.length_append,e]
    have:=ih.1
    omega
   ·intro y hy
    rw[List.flatMap_cons,List.length_append,e]
    rcases List.mem_cons.mp hy with z|z
    ·rw[z];omega
    ·have:=ih.2 y z;omega
 have h2:(encC ((p::ns)::xs)).length=(ns++((xs.length:Int)::xs.flatMap encRow)).length+1+1:=rfl
 rw[h2,List.length_append,List.length_cons]
 refine ⟨by have:=h1.1;omega,fun x hx=>by have:=h1.2 x hx;omega⟩
theorem begins_some {c:CallL} (h:Md33Neutral.begins c=true):(∃a l k,c=[[1,a],l,k])∧(Md33Neutral.step none c).1.isSome=true:=by
 unfold Md33Neutral.begins at h
 split at h
 ·rename_i a l k
  refine ⟨⟨a,l,k,rfl⟩,?_⟩
  have h':=of_decide_eq_true h
  have ha:Md33Neutral.step none [[1,a],l,k]=((if Md33.within a 0 1=false then ((none:Md33.St),Md33.only (-8)) else (some (Md33.begun (if a=1 then some (Md33Neutral.nats k) else none) (Md33Neutral.nats l)),Md33.only 0)).1,(if Md33.within a 0 1=false then ((none:Md33.St),Md33.only (-8)) else (some (Md33.begun (if a=1 then some (Md33Neutral.nats k) else none) (Md33Neutral.nats l)),Md33.only 0)).2.value::(if Md33.within a 0 1=false then ((none:Md33.St),Md33.only (-8)) else (some (Md33.begun (if a=1 then some (Md33Neutral.nats k) else none) (Md33Neutral.nats l)),Md33.only 0)).2.out):=rfl
  have h'':(Md33Neutral.step none [[1,a],l,k]).2=[0]:=h'
  rw[ha] at h'' ⊢
  by_cases hw:Md33.within a 0 1=false
  ·rw[if_pos hw] at h''
   exact absurd h'' (by decide)
  ·rw[if_neg hw];rfl
 ·cases h
theorem Vol0.keepM {t:Adr} {M F:List Addr} {H H':Hp} {a:VA} {key:Option (List Nat)} {bytes L:List Nat} {sts:List Md33.Stand} (x:Vol0 t M H a key bytes L sts) (k:Qr F H H') (hF:∀y∈F,y∈M) (hp:∀y∈F,H' y≠none) (hf:∀y∈foot a,y∉F):Vol0 t M H' a key bytes L sts:=by
 obtain ⟨dx,sv,ov,os⟩:=x.ov
 have f1:=hf a.v (by simp[foot]);have f2:=hf a.co (by simp[foot]);have f3:=hf a.le (by simp[foot]);have f4:=hf a.h (by simp[foot])
 have f5:=hf a.en (by simp[foot]);have f6:=hf a.ch (by simp[foot]);have f7:=hf a.sd (by simp[foot])
 exact ⟨x.mv,x.mco,x.mle,⟨dx,sv,k _ _ f1 ov,os.keep k hF fun y hy=>.inl hy⟩,k _ _ f2 x.oc,k _ _ f3 x.ol,x.n1,x.n2,x.n3,x.hst.keepF k hF hp f4 f5 f6 f7⟩
theorem desk_keep {t:Adr} {M:List Addr} {H H':Hp} {d an:Addr} {a:VA} {s:Option Md33.Book} (h:DeskO t M H d a s) (k:Qr [an] H H') (hM:an∈M) (hp:H' an≠none) (hf:an∉foot a) (hd:d≠an):DeskO t M H' d a s:=by
 cases s with
 | none=>
  obtain ⟨⟨dx,h⟩,p,n⟩:=h
  exact ⟨⟨dx,k _ _ (by simpa using hd) h⟩,Yh p k (mem1 hp),n⟩
 | some b=>
  obtain ⟨⟨dx,h⟩,v,n⟩:=h
  obtain ⟨es,L,A,B⟩:=v.ex
  exact ⟨⟨dx,k _ _ (by simpa using hd) h⟩,⟨⟨es,L,A.keepM k (mem1 hM) (mem1 hp) fun y hy z=>hf (by rw[← List.mem_singleton.mp z];exact hy),B⟩,v.len⟩,n⟩
theorem desk_gb {t:Adr} {M:List Addr} {H:Hp} {d:Addr} {a:VA} {s:Option Md33.Book} (h:DeskO t M H d a s):∀b,s=some b→∃es L,GB b es L∧b.bytes.length≤1048576:=by
 intro b e
 subst e
 obtain ⟨_,v,_⟩:=h
 obtain ⟨es,L,A,B⟩:=v.ex
 exact ⟨es,L,B,v.len⟩
section
variable {P:Program} {w:World} {K:PySem.W.Frag} {mg:Str→Option Value} {base:Heap} {t:Adr}
def sp_answers (t:Adr) (K:PySem.W.Frag):Sp:=fun vs H Q _=>∃(src:Addr) (l:List Int) (cs:List CallL),vs=[.ref src]∧SqL K H src (zvs l)∧l.length≤31000∧(∀c∈cs,∃p ns xs,c=(p::ns)::xs)∧l=cs.flatMap encC∧cs.length≤300∧(∀c∈cs,Md33Neutral.asked1 c=true)∧(∃c r,cs=c::r∧Md33Neutral.begins c=true)∧∀r H',H' r=some (.lst (zvs (outAt none cs)))→Q (.ref r) H'
theorem ok_answers (T:Txt K mg t) {fa:Addr} {fd:FuncData} (F:Fun K "answers" "answers" s_answers fa fd):FnOk P w K mg base CX0 11 fa fd ["calls"] (sp_answers t K):=by
 refine F.ok sc_answers (fun vs H Q E h=>?_) (fun cdv A outer s H vs Q E hr h=>?_)
 ·obtain ⟨src,l,cs,rfl,hs,hl,hcs,hlc,hc300,hask,⟨c0,cr,hc0,hbeg⟩,q⟩:=h
  rfl
 ·obtain ⟨src,l,cs,rfl,hs,hl,hcs,hlc,hc300,hask,⟨c0,cr,hc0,hbeg⟩,q⟩:=h
  refine ⟨_,(Zb (Zo (i:=1) sc_answers.nd rfl (Or.inl rfl) (pk0 (ok_Desk_init T) hr))
   (Zb (Zo (i:=2) sc_answers.nd rfl (Or.inl rfl) (Zz Zd))
   (Zb (Y2 PassesOwn.never rfl (J8 (pf (ok_split_calls T) hr (Za (pv 0) Zd))) (Z3 (i:=3) sc_answers.nd rfl (Or.inl rfl)) (Zb (Zo (i:=4) sc_answers.nd rfl (Or.inl rfl) (pm (pv 1) T.k_Desk (ok_Desk_answer T) hr (Za (pv 3) Zd)))
   (Zb (Z6 (Yu (K:=K) rfl PySem.F.plainAttrs_list PySem.F.slot_list_append PySem.F.type_list_append Yk (pv 2) (Za (Zs (Zq (K:=K) rfl) rfl T.n_len PySem.boot_len (Za (pv 4) Zd)) Zd)))
   (Ze (Z6 (Yu (K:=K) rfl PySem.F.plainAttrs_list PySem.F.slot_list_extend PySem.F.type_list_extend J2 (pv 2) (Za (pv 4) Zd)))))))
   (Ze (Zj (pv 2)))))),?_⟩
  refine fun d dx nd ndx hne=>⟨d,dx,rfl,Zc,rfl,?_⟩
  rw[Jb]
  have s1:Same H (upd (upd H dx (.own d)) d (.ins t.C_Desk dx [("volume",.non)])):=fun b o eb=>by rw[Zn (Zg eb nd),Zn (Zg eb ndx)];exact eb
  have d1:(upd (upd H dx (.own d)) d (.ins t.C_Desk dx [("volume",.non)])) d=some (.ins t.C_Desk dx [("volume",.non)]):=Zc
  generalize upd (upd H dx (.own d)) d (.ins t.C_Desk dx [("volume",.non)])=G1 at *
  refine ⟨(show 0≤sizeLine by decide),fun an nan=>?_⟩
  have s2:=Zk (o:=.lst []) nan
  have a2:(upd G1 an (.lst [])) an=some (.lst []):=Zc
  have d2:=s2 _ _ d1
  have hdan:d≠an:=Zg d1 nan
  generalize upd G1 an (.lst [])=G2 at *
  refine ⟨_,rfl,[d,an],src,l,cs,rfl,mem2 (by rw[d2];simp) (by rw[a2];simp),sqL_same hs (s1.trans s2),by omega,hcs,hlc,fun fo G3 ds s3 n3 e3 hp3=>?_⟩
  have d3:=s3 _ _ d2
  have a3:=s3 _ _ a2
  have hdl:=Paired.length hp3
  have hfod:fo≠d:=fun z=>by rw[z,d2] at n3;cases n3
  have hfoan:fo≠an:=fun z=>by rw[z,a2] at n3;cases n3
  refine ⟨fo,rfl,⟨_,SqL.of e3⟩,for_list (xs:=ds.map V.ref) (fun i σ H4=>∃(v3 v4:Option V) (M:List Addr) (a:VA),σ=[some (.ref src),some (.ref d),some (.ref an),v3,v4]∧an∈M∧(∀y∈M,y=an∨G3 y=none)∧(∀y∈foot a,y=d∨G3 y=none)∧Qr [d,an] G3 H4∧DeskO t M H4 d a (stAt none (cs.take i))∧H4 an=some (.lst (zvs (outAt none (cs.take i))))∧(outAt none (cs.take i)).length≤44831*i∧sz (stAt none (cs.take i))≤46*i+((cs.take i).flatMap encC).length∧(0<i→(stAt none (cs.take i)).isSome=true))
   ⟨none,none,[an],⟨d,d,d,d,d,d,d⟩,rfl,by simp,mem1 (.inl rfl),mem7 (.inl rfl) (.inl rfl) (.inl rfl) (.inl rfl) (.inl rfl) (.inl rfl) (.inl rfl),Qr.refl _ _,⟨⟨dx,d3⟩,mem1 (by rw[a3];simp),by simpa using hdan⟩,a3,Nat.zero_le _,Nat.zero_le _,fun z=>absurd z (Nat.lt_irrefl _)⟩ ?_ ?_ ?_⟩
  ·rintro i σ H4 hi ⟨v3,v4,M,a,rfl,haM,hM,hfo,hk,hD,ha,hol,hsz,hsm⟩
   exact SqL.of (hk _ _ (by simp[hfod,hfoan]) e3)
  ·rintro i x σ H4 hx ⟨v3,v4,M,a,rfl,haM,hM,hfo,hk,hD,ha,hol,hsz,hsm⟩
   rw[List.getElem?_map] at hx
   cases hdi:ds[i]? with
   | none=>rw[hdi] at hx;cases hx
   | some c=>
    rw[hdi] at hx
    have hx':V.ref c=x:=Option.some.inj hx
    subst hx'
    obtain ⟨call,hci,p,ns,xs,hcall,hCO⟩:=Xr hp3 hdi
    subst hcall
    have hi:i<cs.length:=(List.getElem?_eq_some_iff.mp hci).1
    have hcm:(p::ns)::xs∈cs:=List.mem_of_getElem? hci
    have hask1:=hask _ hcm
    have etk:cs.take (i+1)=cs.take i++[(p::ns)::xs]:=by rw[List.take_add_one,hci];rfl
    have hanf:an∉foot a:=fun z=>by
     rcases hfo an z with e|e
     ·exact hdan e.symm
     ·rw[a3] at e;cases e
    have hCO4:CallO t M H4 c p ns xs:=hCO.keep hk (fun y hy=>hy) fun y hy=>(hM y hy).imp (fun e=>by rw[e];simp) id
    obtain ⟨dxd,f4,od4⟩:∃dxd f,H4 d=some (.ins t.C_Desk dxd [("volume",f)]):=by
     cases hs4:stAt none (cs.take i) with
     | none=>rw[hs4] at hD;obtain ⟨⟨dx,h⟩,_⟩:=hD;exact ⟨dx,_,h⟩
     | some b=>rw[hs4] at hD;obtain ⟨⟨dx,h⟩,_⟩:=hD;exact ⟨dx,_,h⟩
    have hlen:=congrArg List.length hlc
    have hpre:((cs.take i).flatMap encC).length+(encC ((p::ns)::xs)).length≤l.length:=by
     have e:cs=cs.take i++((p::ns)::xs)::cs.drop (i+1):=by
      have h1:cs.drop i=((p::ns)::xs)::cs.drop (i+1):=by
       rw[List.drop_eq_getElem_cons hi]
       congr 1
       exact (List.getElem?_eq_some_iff.mp hci).2
      rw[← h1,List.take_append_drop]
     rw[hlen]
     conv=>rhs;rw[e]
     rw[List.flatMap_append,List.flatMap_cons,List.length_append,List.length_append]
     omega
    obtain ⟨el1,el2⟩:=enc_lens p ns xs
    have hnone:stAt none (cs.take i)=none→i=0:=fun e=>by
     by_cases z:0<i
     ·have:=hsm z;rw[e] at this;cases this
     ·omega
    have hfirst:i=0→(p::ns)::xs=c0:=fun e=>by
     subst e
     rw[hc0] at hci
     exact (Option.some.inj hci).symm
    have hnew:stAt none (cs.take i)=none→∃a' l' k',(p::ns)::xs=[[1,a'],l',k']:=fun e=>by
     rw[hfirst (hnone e)];exact (begins_some hbeg).1
    have hgb:=desk_gb hD
    have hstl:=step_len hgb hask1 hnew
    have hsts:=step_size hgb hask1
    refine ⟨_,rfl,d,dxd,_,rfl,od4,rfl,_,rfl,M,a,d,c,stAt none (cs.take i),p,ns,xs,rfl,hD,hCO4,hask1,fun y hy=>by have:=el2 y hy;omega,fun e=>?_,fun r M' a' H5 k5 hMs5 hM5 hfo5 hD5 e5 hfr=>?_⟩
    ·obtain ⟨a',l',k',e'⟩:=hnew e
     injection e' with e1 _
     injection e1
    rw[← stAt_snoc,← etk] at hD5
    have hra:r≠an:=fun z=>by
     rcases hfr with e|e
     ·rw[z,ha] at e;cases e
     ·exact hanf (by rw[← z];exact e)
    have a5:=k5 _ _ (by simp[Ne.symm hdan,hanf]) ha
    have hi300:i<300:=by omega
    have hol':(outAt none (cs.take i)).length≤13449300:=Nat.le_trans hol (by omega)
    have hsl:(Md33Neutral.step (stAt none (cs.take i)) ((p::ns)::xs)).2.length≤44830:=by omega
    generalize hout:(Md33Neutral.step (stAt none (cs.take i)) ((p::ns)::xs)).2=out at *
    refine ⟨_,rfl,Yg a5,_,rfl,r,_,rfl,.inl (SqL.of e5),an,_,_,rfl,rfl,a5,by rw[List.length_map,Qt];omega,?_⟩
    rw[List.length_map]
    have k6:Qr [an] H5 (upd H5 an (.lst (zvs (outAt none (cs.take i))++[V.int out.length]))):=Qr.upd (by simp)
    have a6:(upd H5 an (.lst (zvs (outAt none (cs.take i))++[V.int out.length]))) an=some (.lst (zvs (outAt none (cs.take i))++[V.int out.length])):=Zc
    generalize upd H5 an (.lst (zvs (outAt none (cs.take i))++[V.int out.length]))=G6 at *
    refine ⟨_,rfl,Yg a6,_,rfl,an,r,_,_,rfl,rfl,a6,k6 _ _ (by simpa using hra) e5,by rw[List.length_append,List.length_map,List.length_map,Qt];show _+1+_≤_;omega,?_⟩
    have k7:Qr [an] G6 (upd G6 an (.lst (zvs (outAt none (cs.take i))++[V.int out.length]++zvs out))):=Qr.upd (by simp)
    have a7:(upd G6 an (.lst (zvs (outAt none (cs.take i))++[V.int out.length]++zvs out))) an=some (.lst (zvs (outAt none (cs.take (i+1))))):=by
     rw[Zc,etk,outAt_snoc,hout]
     unfold zvs
     rw[List.map_append,List.append_assoc]
     rfl
    generalize upd G6 an (.lst (zvs (outAt none (cs.take i))++[V.int out.length]++zvs out))=G7 at *
    have hanf':an∉foot a':=fun z=>by
     rcases hfo5 an z with e|e
     ·exact hanf e
     ·rw[ha] at e;cases e
    have hkG:∀{y:Addr},H4 y=none→G3 y=none:=fun {y} e=>Je hk (mem2 (by rw[od4];simp) (by rw[ha];simp)) e
    refine ⟨_,_,M',a',rfl,hMs5 an haM,fun y hy=>(hM5 y hy).elim (hM y) fun e=>.inr (hkG e),fun y hy=>(hfo5 y hy).elim (hfo y) fun e=>.inr (hkG e),fun y o hy ho=>?_,desk_keep hD5 (k6.trans k7) (hMs5 an haM) (by rw[a7];simp) hanf' hdan,a7,?_,?_,fun _=>?_⟩
    ·have hyd:y≠d:=fun z=>hy (by rw[z];simp)
     have hya:y≠an:=fun z=>hy (by rw[z];simp)
     have hyf:y∉foot a:=fun z=>by
      rcases hfo y z with e|e
      ·exact hyd e
      ·rw[ho] at e;cases e
     exact (k6.trans k7) y o (by simpa using hya) (k5 y o (by simp[hyd,hyf]) (hk y o hy ho))
    ·rw[etk,outAt_snoc,hout,List.length_append,List.length_cons]
     omega
    ·rw[etk,stAt_snoc,List.flatMap_append,List.length_append]
     show _≤46*(i+1)+(_+(encC ((p::ns)::xs)++[]).length)
     rw[List.append_nil]
     have:lensX (((p::ns)::xs).drop 1)=lensX xs:=rfl
     omega
    ·rw[etk,stAt_snoc]
     cases hs4:stAt none (cs.take i) with
     | none=>
      rw[hfirst (hnone hs4)]
      exact (begins_some hbeg).2
     | some b=>exact step_some hask1
  ·rintro σ H4 ⟨v3,v4,M,a,rfl,haM,hM,hfo,hk,hD,ha,hol,hsz,hsm⟩
   rw[List.length_map,hdl,List.take_of_length_le (Nat.le_refl _)] at ha
   exact ⟨_,rfl,q an H4 ha⟩
end
def BindsAt (x qual:Str) (st:Stmt) (ps:List Str):Prop:=∀(kV doc pm:Value) (an:Option Addr) (cdv ct:Value) (us:List Value),us.length=ps.length→bindArgs (PySem.W.fnOf x qual (defArgs st) (defBody st) (Qs st) .none kV doc pm an cdv ct) ⟨us,[]⟩=pure (ps.zip us)
theorem b1 {x qual:Str} {st:Stmt} {p0:Str} (h:∀(kV doc pm:Value) (an:Option Addr) (cdv ct u0:Value),bindArgs (PySem.W.fnOf x qual (defArgs st) (defBody st) (Qs st) .none kV doc pm an cdv ct) ⟨[u0],[]⟩=pure ([p0].zip [u0])):BindsAt x qual st [p0]:=fun _ _ _ _ _ _ us hl=>match us,hl with|[_],_=>h _ _ _ _ _ _ _
theorem b2 {x qual:Str} {st:Stmt} {p0 p1:Str} (h:∀(kV doc pm:Value) (an:Option Addr) (cdv ct u0 u1:Value),bindArgs (PySem.W.fnOf x qual (defArgs st) (defBody st) (Qs st) .none kV doc pm an cdv ct) ⟨[u0,u1],[]⟩=pure ([p0,p1].zip [u0,u1])):BindsAt x qual st [p0,p1]:=fun _ _ _ _ _ _ us hl=>match us,hl with|[_,_],_=>h _ _ _ _ _ _ _ _
theorem b3 {x qual:Str} {st:Stmt} {p0 p1 p2:Str} (h:∀(kV doc pm:Value) (an:Option Addr) (cdv ct u0 u1 u2:Value),bindArgs (PySem.W.fnOf x qual (defArgs st) (defBody st) (Qs st) .none kV doc pm an cdv ct) ⟨[u0,u1,u2],[]⟩=pure ([p0,p1,p2].zip [u0,u1,u2])):BindsAt x qual st [p0,p1,p2]:=fun _ _ _ _ _ _ us hl=>match us,hl with|[_,_,_],_=>h _ _ _ _ _ _ _ _ _
theorem b4 {x qual:Str} {st:Stmt} {p0 p1 p2 p3:Str} (h:∀(kV doc pm:Value) (an:Option Addr) (cdv ct u0 u1 u2 u3:Value),bindArgs (PySem.W.fnOf x qual (defArgs st) (defBody st) (Qs st) .none kV doc pm an cdv ct) ⟨[u0,u1,u2,u3],[]⟩=pure ([p0,p1,p2,p3].zip [u0,u1,u2,u3])):BindsAt x qual st [p0,p1,p2,p3]:=fun _ _ _ _ _ _ us hl=>match us,hl with|[_,_,_,_],_=>h _ _ _ _ _ _ _ _ _ _
theorem b5 {x qual:Str} {st:Stmt} {p0 p1 p2 p3 p4:Str} (h:∀(kV doc pm:Value) (an:Option Addr) (cdv ct u0 u1 u2 u3 u4:Value),bindArgs (PySem.W.fnOf x qual (defArgs st) (defBody st) (Qs st) .none kV doc pm an cdv ct) ⟨[u0,u1,u2,u3,u4],[]⟩=pure ([p0,p1,p2,p3,p4].zip [u0,u1,u2,u3,u4])):BindsAt x qual st [p0,p1,p2,p3,p4]:=fun _ _ _ _ _ _ us hl=>match us,hl with|[_,_,_,_,_],_=>h _ _ _ _ _ _ _ _ _ _ _
theorem b7 {x qual:Str} {st:Stmt} {p0 p1 p2 p3 p4 p5 p6:Str} (h:∀(kV doc pm:Value) (an:Option Addr) (cdv ct u0 u1 u2 u3 u4 u5 u6:Value),bindArgs (PySem.W.fnOf x qual (defArgs st) (defBody st) (Qs st) .none kV doc pm an cdv ct) ⟨[u0,u1,u2,u3,u4,u5,u6],[]⟩=pure ([p0,p1,p2,p3,p4,p5,p6].zip [u0,u1,u2,u3,u4,u5,u6])):BindsAt x qual st [p0,p1,p2,p3,p4,p5,p6]:=fun _ _ _ _ _ _ us hl=>match us,hl with|[_,_,_,_,_,_,_],_=>h _ _ _ _ _ _ _ _ _ _ _ _ _
section
variable {K:PySem.W.Frag} {mg:Str→Option Value} {h:Heap} {C f:Addr} {oc:Value} {od an:Option Addr} {osl:Array (Option Value)} {kV doc pm cdv ct:Value} {x m qual:Str} {st:Stmt} {ps:List Str}
theorem defF_mk (X:K.In h) (G:h.Ns mainGlobals mg) (a:PySem.W.nsIn K mainGlobals x=some (some (.ref f)))
  (l:K.lookup f=some ⟨oc,od,.func (PySem.W.fnOf x x (defArgs st) (defBody st) (Qs st) .none kV doc pm an cdv ct),osl⟩) (c:PySem.W.codeIn K cdv x=true) (k:PySem.W.keepIn K (.ref f)=true) (hb:BindsAt x x st ps):DefF K mg x st ps:=
 ⟨f,_,PySem.W.mg_of X G a,k,fun_mk l c k,(fun_mk (st:=st) l c k).binds hb⟩
theorem defM_mk (a:PySem.W.findIn K (.ref C) m=some (some (.ref f))) (i:PySem.W.isFn K (.ref f)=true)
  (l:K.lookup f=some ⟨oc,od,.func (PySem.W.fnOf m qual (defArgs st) (defBody st) (Qs st) .none kV doc pm an cdv ct),osl⟩) (c:PySem.W.codeIn K cdv qual=true) (k:PySem.W.keepIn K (.ref f)=true) (hb:BindsAt m qual st ps):DefM K C m qual st ps:=
 ⟨f,_,⟨a,i,k⟩,fun_mk l c k,(fun_mk (st:=st) l c k).binds hb⟩
theorem defC_mk (X:K.In h) (G:h.Ns mainGlobals mg) (n:PySem.W.nsIn K mainGlobals x=some (some (.ref C))) (mk:PySem.W.makesIn K C=true) (kc:PySem.W.keepIn K (.ref C)=true) (a:PySem.W.findIn K (.ref C) "__init__"=some (some (.ref f))) (i:PySem.W.isFn K (.ref f)=true)
  (l:K.lookup f=some ⟨oc,od,.func (PySem.W.fnOf "__init__" qual (defArgs st) (defBody st) (Qs st) .none kV doc pm an cdv ct),osl⟩) (c:PySem.W.codeIn K cdv qual=true) (k:PySem.W.keepIn K (.ref f)=true) (hb:BindsAt "__init__" qual st ps):DefC K mg C x qual st ps:=
 ⟨f,_,PySem.W.mg_of X G n,⟨mk,a,i,kc⟩,fun_mk l c k,(fun_mk (st:=st) l c k).binds hb⟩
theorem vals_nats {xs:List Nat} {vs:List Value} (h:(vs.map fun v=>match v with|.int z _=>some z|_=>none)=xs.map fun (n:Nat)=>some (n:Int)):Vals (nats xs) vs:=by
 induction vs generalizing xs with
 | nil=>cases xs with
  | nil=>exact .nil
  | cons a b=>cases h
 | cons v vs ih=>cases xs with
  | nil=>cases h
  | cons a b=>
   rw[List.map_cons,List.map_cons] at h
   injection h with h1 h2
   refine .cons ?_ (ih h2)
   cases v<;>first|(injection h1 with h1;subst h1;exact ⟨_,rfl⟩)|cases h1
theorem sqT_mk {xs:List Nat} {its:Array Value} {n:Nat} (l:K.lookup f=some ⟨.type "tuple",od,.seq its n,osl⟩) (hs:its.size≤1000) (e:(its.toList.map fun v=>match v with|.int z _=>some z|_=>none)=xs.map fun (n:Nat)=>some (n:Int)):∀H,SqT K H f (nats xs):=
 fun H=>.inr ⟨_,its,n,l,rfl,rfl,Nat.le_trans hs (by decide),vals_nats e⟩
end
theorem pre_dec {r:PySem.W.OpenSpec} {as:List PySem.W.WData} (h:r.pre as=true):∃a,PySem.W.Codec.decAll r.args as=some a∧PySem.W.Codec.app r.args r.asked a=true:=by
 unfold PySem.W.OpenSpec.pre at h
 cases e:PySem.W.Codec.decAll r.args as with
 | none=>rw[e] at h;cases h
 | some a=>rw[e] at h;exact ⟨a,rfl,h⟩
theorem post_of {r:PySem.W.OpenSpec} {as:List PySem.W.WData} {d:PySem.W.WData} {a:PySem.W.Codec.denoteAll r.args} (e:PySem.W.Codec.decAll r.args as=some a) (h:d=r.ret.enc (PySem.W.Codec.app r.args r.f a)):r.post as d=true:=by
 unfold PySem.W.OpenSpec.post
 rw[e]
 exact PySem.W.same_iff.mpr h
theorem hpre_answers:∀args,PySem.Challenge.rw_keptbook_s01_answers.pre args=true→∃ns:List Int,args=[PySem.W.WData.list (ns.map PySem.W.WData.int)]∧ns.length≤31000∧PyMd33.answers_asked ns=true:=by
 intro args h
 obtain ⟨a,e,h'⟩:=pre_dec h
 obtain ⟨q1,q2⟩:=PySem.W.Codec.encAll_of_decAll _ args a e
 obtain ⟨ns,u⟩:=a
 refine ⟨ns,q1,?_,h'⟩
 have h3:(PySem.W.Codec.inNat 0 31000 (List.length (α:=Int) ns)&&(List.all (α:=Int) ns _)&&true)=true:=q2
 exact (PySem.W.Codec.inNat_iff.mp (PySem.W.Codec.and_of (PySem.W.Codec.and_of h3).1).1).2
theorem hpost_answers:∀ns:List Int,ns.length≤31000→PyMd33.answers_asked ns=true→PySem.Challenge.rw_keptbook_s01_answers.claim.pre [PySem.W.WData.list (ns.map PySem.W.WData.int)]=true→PySem.Challenge.rw_keptbook_s01_answers.claim.post [PySem.W.WData.list (ns.map PySem.W.WData.int)] (.list ((PyMd33.answers ns).map PySem.W.WData.int)) [PySem.W.WData.list (ns.map PySem.W.WData.int)]=true:=by
 intro ns _ _ h
 obtain ⟨a,e,h'⟩:=pre_dec h
 obtain ⟨q1,q2⟩:=PySem.W.Codec.encAll_of_decAll _ _ a e
 refine post_of e ?_
 obtain ⟨as,u⟩:=a
 have e':[PySem.W.WData.list (ns.map PySem.W.WData.int)]=[PySem.W.WData.list (List.map (α:=Int) PySem.W.WData.int as)]:=q1
 injection e' with e1 _
 injection e1 with e2
 have e3:ns=as:=PySem.W.Codec.map_inj _ (fun x y z=>PySem.W.WData.int.inj z) _ _ e2
 subst e3
 rfl
theorem hsp_answers (t:Adr) (K:PySem.W.Frag) (H:Hp) (a:Addr) (ns:List Int) (hl:ns.length≤31000) (hask:PyMd33.answers_asked ns=true) (hS:SqL K H a (ns.map V.int)):
  sp_answers t K [.ref a] H (fun v H'=>∃r,v=.ref r∧H' r=some (.lst ((PyMd33.answers ns).map V.int))) fun _ _ _=>False:=by
 unfold PyMd33.answers_asked PyMd33.calls at hask
 unfold PyMd33.answers PyMd33.calls
 cases e:PyWide.calls ns.length ns with
 | none=>rw[e] at hask;cases hask
 | some cs=>
  rw[e] at hask
  have h1:(PyFlat.atMost 300 cs&&Md33Neutral.asked cs)=true:=hask
  obtain ⟨h2,h3⟩:=Bool.and_eq_true_iff.mp h1
  obtain ⟨h4,h5⟩:=Bool.and_eq_true_iff.mp (show (cs.all Md33Neutral.asked1&&(Option.map Md33Neutral.begins cs.head?).getD false)=true from h3)
  obtain ⟨g1,g2⟩:=calls_shape _ e
  refine ⟨a,ns,cs,rfl,hS,hl,g1,g2,of_decide_eq_true h2,fun c hc=>List.all_eq_true.mp h4 c hc,?_,fun r H' hr=>⟨r,rfl,?_⟩⟩
  ·cases cs with
   | nil=>cases h5
   | cons c r=>exact ⟨c,r,rfl,h5⟩
  ·rw[hr]
   show some (HO.lst (zvs (outAt none cs)))=some (HO.lst ((PyFlat.told (PyFlat.played Md33Neutral.step Md33Neutral.start cs)).map V.int))
   rw[told_out]
   rfl
theorem f_answers {P:Program} {w:World} {K:PySem.W.Frag} {mg:Str→Option Value} {t:Adr} {fa:Addr} (T:Txt K mg t) (hmg:mg "answers"=some (.ref fa)):
  ∃fd:FuncData,(∀(s:Shared) (u:Value),BindsTo s fd ⟨[u],[]⟩ [("calls",u)])∧∀base:Heap,K.In base→base.Ns mainGlobals mg→FnOk P w K mg base CX0 11 fa fd ["calls"] (sp_answers t K):=by
 obtain ⟨f,fd,h1,h2,F,b⟩:=T.d_answers
 have e:f=fa:=by
  have:=h1.symm.trans hmg
  injection this with this
  injection this
 subst e
 refine ⟨fd,fun s u=>?_,fun base _ _=>ok_answers T F⟩
 obtain ⟨oc,od,kV,doc,pm,an,cdv,ct,osl,rfl,lk,hcd⟩:=F.ex
 exact .of_eq rfl
theorem walk_answers (t:Adr) {q:Program} {loose:List Str} {XP:(Str→Option Value)→Heap→Prop} {YP:World→Heap→Prop} {d:DefRec} {K:Params→PySem.W.Frag} (hdf:d.params.defaults=[]) (hdn:d.name="answers")
  (hY:∀(w:World) (h:Heap),YP w h→(K w.params).In h) (F:∀(w:World) (mg:Str→Option Value) (h:Heap),(K w.params).In h→h.Ns mainGlobals mg→Txt (K w.params) mg t):
  PySem.W.WalkOS q loose XP YP PySem.Challenge.rw_keptbook_s01_answers d [] (fun f vs=>PySem.call f vs):=
 walk_spec (k:=11) (n:=31000) (x:="calls") (sp:=fun w=>sp_answers t (K w.params)) PyMd33.answers PyMd33.answers_asked hpre_answers hpost_answers (by decide) hdf ⟨rfl,by decide,by decide⟩ hY
  (fun w mg fa h KX G hmg=>f_answers (F w mg h KX G) (hdn▸hmg)) fun w H a ns hl ha _ hS=>hsp_answers t _ H a ns hl ha hS
theorem noAttr_mk {K:PySem.W.Frag} {C:Addr} {f:Str} (e:PySem.W.findIn K (.ref C) f=some none):NoAttr K C f:=e
theorem cls_mk {K:PySem.W.Frag} {C:Addr} (pg:PySem.W.plainGet K C Str.empty=true) (hd:PySem.W.hasDictIn K C=true) (po:PySem.W.plainOver K C=true) (sa:PySem.W.findIn K (.ref C) "__setattr__"=some (some (.builtin "object.__setattr__"))):Cls K C:=⟨pg,hd,po,sa⟩
theorem int_mk {K:PySem.W.Frag} {h:Heap} {mg:Str→Option Value} {x:Str} {z:Int} {u:Tok} (X:K.In h) (G:h.Ns mainGlobals mg) (e:PySem.W.nsIn K mainGlobals x=some (some (.int z u))):∃u,mg x=some (.int z u):=⟨u,PySem.W.mg_of X G e⟩
end Kb
namespace PySem.W.Fast
theorem tw2948906274629800901:True:=⟨⟩
theorem tw801086774703398588:True:=⟨⟩
theorem tw10934704012984215506:True:=⟨⟩
theorem tw7460887498484844015:True:=⟨⟩
theorem tw9935368991338323981:True:=⟨⟩
theorem tw7427973521115114741:True:=⟨⟩
theorem tw3715489931260265068:True:=⟨⟩
theorem tw12842334736663624475:True:=⟨⟩
theorem tw3989788359910657543:True:=⟨⟩
theorem tw10639067451015457229:True:=⟨⟩
theorem tw2393836621047756240:True:=⟨⟩
theorem tw8676673588682899563:True:=⟨⟩
theorem tw29490833610208958:True:=⟨⟩
theorem tw1083009865116385667:True:=⟨⟩
theorem tw17832379147435974310:True:=⟨⟩
theorem tw9161206970973543800:True:=⟨⟩
theorem tw2216994020270389876:True:=⟨⟩
theorem tw16442797593909501330:True:=⟨⟩
theorem tw9995255327133933765:True:=⟨⟩
theorem tw11030070986130046762:True:=⟨⟩
theorem tw8314671622035813898:True:=⟨⟩
theorem tw7584476492491777069:True:=⟨⟩
theorem tw10053231915673588299:True:=⟨⟩
theorem tw10765622255668955837:True:=⟨⟩
theorem tw11168585022947467678:True:=⟨⟩
theorem tw16197698435678003714:True:=⟨⟩
theorem tw12199041021561070838:True:=⟨⟩
theorem tw11684346376240782747:True:=⟨⟩
theorem tw17174153353500465718:True:=⟨⟩
theorem tw3136471255913349164:True:=⟨⟩
theorem tw17867484158739679032:True:=⟨⟩
theorem tw16610693541089459262:True:=⟨⟩
theorem tw14271204706306342174:True:=⟨⟩
theorem tw13338708152510219778:True:=⟨⟩
theorem tw9678445709322877411:True:=⟨⟩
theorem tw16990716163584695129:True:=⟨⟩
theorem tw4970655970304218234:True:=⟨⟩
theorem tw283552594557986630:True:=⟨⟩
theorem tw11049353548653035788:True:=⟨⟩
theorem tw11825663378445928672:True:=⟨⟩
theorem tw3485267369327392494:True:=⟨⟩
theorem tw16463751007319825736:True:=⟨⟩
theorem tw6210331643681114196:True:=⟨⟩
theorem tw17238581816486452830:True:=⟨⟩
theorem tw18197742856296244550:True:=⟨⟩
theorem tw17343277355242325656:True:=⟨⟩
theorem tw11698294915822574575:True:=⟨⟩
theorem tw9450155822194573589:True:=⟨⟩
theorem tw2757342517074382753:True:=⟨⟩
theorem tw12864261300100578707:True:=⟨⟩
theorem tw2801484170858871849:True:=⟨⟩
theorem tw1279920952144266734:True:=⟨⟩
theorem tw4234454137126751862:True:=⟨⟩
theorem tw10676154254710754123:True:=⟨⟩
theorem tw15028271894543680552:True:=⟨⟩
theorem tw6441901543167845703:True:=⟨⟩
theorem tw4311557388452102538:True:=⟨⟩
theorem tw6694200759309421037:True:=⟨⟩
theorem tw16914557409216256672:True:=⟨⟩
theorem tw40556170007930525:True:=⟨⟩
theorem tw17419880908377870611:True:=⟨⟩
theorem tw392780135899254641:True:=⟨⟩
theorem tw902872775168745845:True:=⟨⟩
theorem tw12769188121100294893:True:=⟨⟩
theorem tw2527674684279579181:True:=⟨⟩
theorem tw16535445712677111556:True:=⟨⟩
theorem tw17244427015824422247:True:=⟨⟩
theorem tw3705704352161894156:True:=⟨⟩
theorem tw5711926790550930010:True:=⟨⟩
theorem tw16462199992176186356:True:=⟨⟩
theorem tw12418128239583408544:True:=⟨⟩
theorem tw16256519923488220815:True:=⟨⟩
theorem tw9947061940290249697:True:=⟨⟩
theorem tw4714802765801973752:True:=⟨⟩
theorem tw7160978392955206480:True:=⟨⟩
theorem tw11263193615361319335:True:=⟨⟩
theorem tw3497965468145411641:True:=⟨⟩
theorem tw1568598088205440513:True:=⟨⟩
theorem tw42210918080896144:True:=⟨⟩
theorem tw8142440531002541452:True:=⟨⟩
theorem tw4187782946876162274:True:=⟨⟩
theorem tw11362702003192804405:True:=⟨⟩
theorem tw7354060007235686259:True:=⟨⟩
theorem tw6115713956516338400:True:=⟨⟩
theorem tw9059716658910749823:True:=⟨⟩
theorem tw15710020204529110102:True:=⟨⟩
theorem tw7813854732808411244:True:=⟨⟩
theorem tw15807964783340125091:True:=⟨⟩
theorem tw12005927653899734279:True:=⟨⟩
theorem tw17299632019821014168:True:=⟨⟩
theorem tw5298509499871108420:True:=⟨⟩
theorem tw13093043769178389805:True:=⟨⟩
theorem tw4701273953074182064:True:=⟨⟩
theorem tw15950918996339103864:True:=⟨⟩
theorem tw7250393530277062100:True:=⟨⟩
theorem tw12691266919384741520:True:=⟨⟩
theorem tw17874795459295652149:True:=⟨⟩
theorem tw11603492793040878739:True:=⟨⟩
theorem tw12938161117086405976:True:=⟨⟩
theorem tw10272185107872646624:True:=⟨⟩
theorem tw8304704348630126954:True:=⟨⟩
theorem tw12526199887758172935:True:=⟨⟩
theorem tw8829505080705160079:True:=⟨⟩
theorem tw12044404726557593233:True:=⟨⟩
theorem tw6803704609146734771:True:=⟨⟩
theorem tw10657426399716029392:True:=⟨⟩
theorem tw9801502961116850870:True:=⟨⟩
theorem tw4314518610950650058:True:=⟨⟩
theorem tw17571074322558550456:True:=⟨⟩
theorem tw10670854340045630128:True:=⟨⟩
theorem tw2908586076039904822:True:=⟨⟩
theorem tw10831431495118743365:True:=⟨⟩
theorem tw5872358135122213481:True:=⟨⟩
theorem tw10648829605567791493:True:=⟨⟩
theorem tw8468135347060202950:True:=⟨⟩
theorem tw2427929440433619392:True:=⟨⟩
theorem tw13021293157851083756:True:=⟨⟩
theorem tw16870913545773539884:True:=⟨⟩
theorem tw5934793609024527574:True:=⟨⟩
theorem tw3421754952678911423:True:=⟨⟩
theorem tw6244687817210968462:True:=⟨⟩
theorem tw17117845715169619059:True:=⟨⟩
theorem tw8736814741878416079:True:=⟨⟩
theorem tw1028878675921057529:True:=⟨⟩
theorem tw7129380658203900705:True:=⟨⟩
theorem tw3288634874687098049:True:=⟨⟩
theorem tw1215698717178481707:True:=⟨⟩
theorem tw16715218733010256422:True:=⟨⟩
theorem tw5384942862232772682:True:=⟨⟩
theorem tw3952380692349046886:True:=⟨⟩
theorem tw4221721912538204572:True:=⟨⟩
theorem tw17484201687911468595:True:=⟨⟩
theorem tw5305848597685097112:True:=⟨⟩
theorem tw10622472783269856787:True:=⟨⟩
theorem tw14230938316565587869:True:=⟨⟩
theorem tw11554377240343769547:True:=⟨⟩
theorem tw12881080350084436947:True:=⟨⟩
theorem tw8291553991712540912:True:=⟨⟩
theorem tw17372063310507284490:True:=⟨⟩
theorem tw17643708690819899875:True:=⟨⟩
theorem tw13296061268006598091:True:=⟨⟩
theorem tw10519190905540157868:True:=⟨⟩
theorem tw8013156355306182634:True:=⟨⟩
theorem tw2343405101112919836:True:=⟨⟩
theorem tw10675192094914556261:True:=⟨⟩
theorem tw17217034868733210390:True:=⟨⟩
theorem tw2681480269141857049:True:=⟨⟩
theorem tw31241554806175618:True:=⟨⟩
theorem tw1637999161107299423:True:=⟨⟩
theorem tw1247307572539535088:True:=⟨⟩
theorem tw14493995919176477454:True:=⟨⟩
theorem tw15975544977340284312:True:=⟨⟩
theorem tw6291934645483705231:True:=⟨⟩
theorem tw1868372223786261180:True:=⟨⟩
theorem tw16415280846057514458:True:=⟨⟩
theorem tw12358535076943201364:True:=⟨⟩
theorem tw15651366937786176715:True:=⟨⟩
theorem tw11582413441196307395:True:=⟨⟩
theorem tw10195430326939138864:True:=⟨⟩
theorem tw1184567551741979591:True:=⟨⟩
theorem tw14521023984189416022:True:=⟨⟩
theorem tw17924614997841517490:True:=⟨⟩
theorem tw17046208968436007714:True:=⟨⟩
theorem tw4692302855957853210:True:=⟨⟩
theorem tw11372480955934054381:True:=⟨⟩
theorem tw11885981647532086203:True:=⟨⟩
theorem tw10144070185749465503:True:=⟨⟩
theorem tw14523354989740695648:True:=⟨⟩
theorem tw3713583164116224324:True:=⟨⟩
theorem tw4004686645053018669:True:=⟨⟩
theorem tw4724539080372627832:True:=⟨⟩
theorem tw13054118295352569232:True:=⟨⟩
theorem tw13800570671583900459:True:=⟨⟩
theorem tw15935027105410515360:True:=⟨⟩
theorem tw3177549170694614377:True:=⟨⟩
theorem tw8393873844238669394:True:=⟨⟩
theorem tw10819268232361004975:True:=⟨⟩
theorem tw5970240699542069506:True:=⟨⟩
theorem tw12838847907679997821:True:=⟨⟩
theorem tw17048455137101252937:True:=⟨⟩
theorem tw2714916726642910937:True:=⟨⟩
theorem tw15318316181710469779:True:=⟨⟩
theorem tw9134403145997660744:True:=⟨⟩
theorem tw10069824220596387535:True:=⟨⟩
theorem tw12644888126272858860:True:=⟨⟩
theorem tw5437067436808940469:True:=⟨⟩
theorem tw1319840190979644381:True:=⟨⟩
theorem tw15759024378326856996:True:=⟨⟩
theorem tw13594625471619357800:True:=⟨⟩
theorem tw15082669368298112364:True:=⟨⟩
theorem tw2595471445319645945:True:=⟨⟩
theorem tw517349612939691470:True:=⟨⟩
theorem tw17794262291038602237:True:=⟨⟩
theorem tw15173943897005356923:True:=⟨⟩
theorem tw437076346035018199:True:=⟨⟩
theorem tw1003878210041078696:True:=⟨⟩
theorem tw7547283228769258407:True:=⟨⟩
theorem tw15983126426275618345:True:=⟨⟩
theorem tw9473296953865830162:True:=⟨⟩
theorem tw6739744977939862099:True:=⟨⟩
theorem tw1446721373369620098:True:=⟨⟩
theorem tw1425212646805564845:True:=⟨⟩
theorem tw7520739851096803683:True:=⟨⟩
theorem tw8048379360233258566:True:=⟨⟩
theorem tw3462043222447125663:True:=⟨⟩
theorem tw17906815798861608533:True:=⟨⟩
theorem tw16832531035374038230:True:=⟨⟩
theorem tw12553253063213930006:True:=⟨⟩
theorem tw17805169887994691104:True:=⟨⟩
theorem tw14848787072428719279:True:=⟨⟩
theorem tw3607947222499745706:True:=⟨⟩
theorem tw11481781896997611082:True:=⟨⟩
theorem tw2205408564250899129:True:=⟨⟩
theorem tw1740767123974887237:True:=⟨⟩
theorem tw9249862100479626139:True:=⟨⟩
theorem tw7794585599801597750:True:=⟨⟩
theorem tw11763493044969793479:True:=⟨⟩
theorem tw9986642292904758228:True:=⟨⟩
theorem tw9859813536901748362:True:=⟨⟩
theorem tw1870479169971383417:True:=⟨⟩
theorem tw3532549941711065854:True:=⟨⟩
theorem tw9874345497280146426:True:=⟨⟩
theorem tw14837275948715710375:True:=⟨⟩
theorem tw16393879856232511460:True:=⟨⟩
theorem tw10463203676269955358:True:=⟨⟩
theorem tw17869283181485578465:True:=⟨⟩
theorem tw9819392043894010505:True:=⟨⟩
theorem tw3326415983352861719:True:=⟨⟩
theorem tw8299718914682942353:True:=⟨⟩
theorem tw11400110423857909734:True:=⟨⟩
theorem tw4877111708350373033:True:=⟨⟩
theorem tw7051796256334302279:True:=⟨⟩
theorem tw60365915429143993:True:=⟨⟩
theorem tw18321880080897276452:True:=⟨⟩
theorem tw14044869276069820163:True:=⟨⟩
theorem tw5564411962525641540:True:=⟨⟩
theorem tw10941186478374234340:True:=⟨⟩
theorem tw248499412195766161:True:=⟨⟩
theorem tw3158367235954876039:True:=⟨⟩
theorem tw3437524912642186570:True:=⟨⟩
theorem tw3693082556089756214:True:=⟨⟩
theorem tw13437847167938811205:True:=⟨⟩
theorem tw8032666278739899802:True:=⟨⟩
theorem tw2141672486371021507:True:=⟨⟩
theorem tw17256251083323338686:True:=⟨⟩
theorem tw12577129369585151300:True:=⟨⟩
theorem tw13627915809951325968:True:=⟨⟩
theorem tw17841511475197917069:True:=⟨⟩
theorem tw17282941941876576868:True:=⟨⟩
theorem tw12517562592007653364:True:=⟨⟩
theorem tw10701837435898623597:True:=⟨⟩
theorem tw4122635995892044849:True:=⟨⟩
theorem tw9771599334709662619:True:=⟨⟩
theorem tw5755721665748029187:True:=⟨⟩
theorem tw16294878464160682563:True:=⟨⟩
theorem tw7729429480703024155:True:=⟨⟩
theorem tw10223845983745186679:True:=⟨⟩
theorem tw1062868480043109043:True:=⟨⟩
theorem tw12004747314121466905:True:=⟨⟩
theorem tw7995968414382270963:True:=⟨⟩
theorem tw6785717279496945263:True:=⟨⟩
theorem tw13897029065377673243:True:=⟨⟩
theorem tw14229445766879131167:True:=⟨⟩
theorem tw12404784190004622504:True:=⟨⟩
theorem tw16153985613673732809:True:=⟨⟩
theorem tw4148961103557695838:True:=⟨⟩
theorem tw548883306996987450:True:=⟨⟩
theorem tw15405368771353094546:True:=⟨⟩
theorem tw17168718904336800392:True:=⟨⟩
theorem tw8549848154037427760:True:=⟨⟩
theorem tw13690773126167551767:True:=⟨⟩
theorem tw894814097570532770:True:=⟨⟩
theorem tw5494242680639549947:True:=⟨⟩
theorem tw14079722466145503256:True:=⟨⟩
theorem tw10113088696566778356:True:=⟨⟩
theorem tw10387297707123170150:True:=⟨⟩
theorem tw15093033828645629196:True:=⟨⟩
theorem tw308778560119696949:True:=⟨⟩
theorem tw9788343253293948138:True:=⟨⟩
theorem tw4602132013569242864:True:=⟨⟩
theorem tw16790102298032732349:True:=⟨⟩
theorem tw14571326153519060229:True:=⟨⟩
theorem tw10018292350297411730:True:=⟨⟩
theorem tw6455002488425292589:True:=⟨⟩
theorem tw13893225790024149051:True:=⟨⟩
theorem tw898266708054631508:True:=⟨⟩
theorem tw17495132892797852936:True:=⟨⟩
theorem tw7054532847677611184:True:=⟨⟩
theorem tw14884867522916098799:True:=⟨⟩
theorem tw13458636401778132452:True:=⟨⟩
theorem tw8260520661565130802:True:=⟨⟩
theorem tw5656896160833268121:True:=⟨⟩
theorem tw1864936003484855197:True:=⟨⟩
theorem tw12655019326276658928:True:=⟨⟩
theorem tw16424233280217436449:True:=⟨⟩
theorem tw2131277887641644748:True:=⟨⟩
theorem tw840839617642722171:True:=⟨⟩
theorem tw7598708452842468826:True:=⟨⟩
theorem tw14483291136601591716:True:=⟨⟩
theorem tw3121242992613877974:True:=⟨⟩
theorem tw17735062816395272652:True:=⟨⟩
theorem tw175874983125120505:True:=⟨⟩
theorem tw1296410328129830527:True:=⟨⟩
theorem tw8629278745689541593:True:=⟨⟩
theorem tw1116226066086768186:True:=⟨⟩
theorem tw10908612728688599125:True:=⟨⟩
theorem tw662620138283281963:True:=⟨⟩
theorem tw13713414874867060950:True:=⟨⟩
theorem tw8134317431839137163:True:=⟨⟩
theorem tw13706245581760095687:True:=⟨⟩
theorem tw6201582504335600722:True:=⟨⟩
theorem tw9369003953478739498:True:=⟨⟩
theorem tw4734257091700599405:True:=⟨⟩
theorem tw13059012712176264447:True:=⟨⟩
theorem tw13446276502938987415:True:=⟨⟩
theorem tw9952395358656735560:True:=⟨⟩
theorem tw9643119554614281003:True:=⟨⟩
theorem tw15375346190297746397:True:=⟨⟩
theorem tw3510085409531212867:True:=⟨⟩
theorem tw3045476816479928133:True:=⟨⟩
theorem tw8716422846227040340:True:=⟨⟩
theorem tw12772782318530542175:True:=⟨⟩
theorem tw11387308304490535710:True:=⟨⟩
theorem tw3307482176557192273:True:=⟨⟩
theorem tw16420551783152175396:True:=⟨⟩
theorem tw17871209457390461341:True:=⟨⟩
theorem tw15536109850720588132:True:=⟨⟩
theorem tw10588228439376732356:True:=⟨⟩
theorem tw11836790639270353826:True:=⟨⟩
theorem tw2735794946092685268:True:=⟨⟩
theorem tw7235963792076898342:True:=⟨⟩
theorem tw11353895325648425155:True:=⟨⟩
theorem tw8058475560961269565:True:=⟨⟩
theorem tw3845411493554713323:True:=⟨⟩
theorem tw1032464265106448778:True:=⟨⟩
theorem tw8494862693473323859:True:=⟨⟩
theorem tw17523848587668042019:True:=⟨⟩
theorem tw1730582602851475739:True:=⟨⟩
theorem tw16027519329435911235:True:=⟨⟩
theorem tw15836561534923609829:True:=⟨⟩
theorem tw16299981319659020973:True:=⟨⟩
theorem tw2941080882994697352:True:=⟨⟩
theorem tw17050842330505637770:True:=⟨⟩
theorem tw12691519556480489037:True:=⟨⟩
theorem tw15637365346090160774:True:=⟨⟩
theorem tw6432479718777132331:True:=⟨⟩
theorem tw16143098034808074938:True:=⟨⟩
theorem tw1009238998728082000:True:=⟨⟩
theorem tw12937598932449306625:True:=⟨⟩
theorem tw13420485001482233939:True:=⟨⟩
theorem tw16587337732347347987:True:=⟨⟩
theorem tw12314361056444529798:True:=⟨⟩
theorem tw14251443897388067674:True:=⟨⟩
theorem tw14514089185344412543:True:=⟨⟩
theorem tw2859794924580210513:True:=⟨⟩
end PySem.W.Fast
open PySem PySem.W PyProof.Rows
set_option maxRecDepth 100000 in
set_option maxHeartbeats 0 in
theorem PySem.Challenge.cw_keptbook_s01_answers_holds : PySem.Challenge.rw_keptbook_s01_answers.Holds := by
  w_on; k_headS; (case hw => exact ⟨[.list [.int 1, .int 1, .int 0, .int 2, .int 16, .int 0, .int 0, .int 0, .int 0, .int 0, .int 0, .int 0, .int 0, .int 0, .int 0, .int 0, .int 0, .int 0, .int 0, .int 0, .int 0, .int 0]], by decide +kernel, by decide +kernel⟩)
  k_fillS
  refine Kb.walk_answers ⟨31, 80, 365, 445, 527, 548, 673, 92, 138, 139, 140, 141⟩ rfl rfl (fun w h Y => PySem.W.kIn_of Y) ?F
  case F =>
    intro w mg h KX G
    constructor
    all_goals (try dsimp only)
    all_goals first
      | (with_reducible refine PySem.W.mg_none_of KX G ?_); k_is
      | (with_reducible refine' Kb.int_mk KX G ?e); (case e => k_is)
      | (with_reducible refine' PySem.W.mg_of KX G ?e); (case e => k_is)
      | (with_reducible refine' Kb.noAttr_mk ?a); (case a => k_is)
      | (with_reducible refine' Kb.defF_mk KX G ?a ?l ?c ?k ?_); (case a => k_is); (case l => k_is); (case c => k_is); (case k => k_is)
      | (with_reducible refine' Kb.defM_mk ?a ?i ?l ?c ?k ?_); (case a => k_is); (case i => k_is); (case l => k_is); (case c => k_is); (case k => k_is)
      | (with_reducible refine' Kb.defC_mk KX G ?n ?m ?r ?a ?i ?l ?c ?k ?_); (case n => k_is); (case m => k_is); (case r => k_is); (case a => k_is); (case i => k_is); (case l => k_is); (case c => k_is); (case k => k_is)
      | (with_reducible refine' Kb.cls_mk ?a ?b ?c ?d); (case a => k_is); (case b => k_is); (case c => k_is); (case d => k_is)
      | (with_reducible refine' Kb.sqT_mk ?l ?s ?e); (case l => k_is); (case s => decide); (case e => rfl)
    all_goals first
      | exact Kb.b1 fun _ _ _ _ _ _ _ => by kernel_rfl
      | exact Kb.b2 fun _ _ _ _ _ _ _ _ => by kernel_rfl
      | exact Kb.b3 fun _ _ _ _ _ _ _ _ _ => by kernel_rfl
      | exact Kb.b4 fun _ _ _ _ _ _ _ _ _ _ => by kernel_rfl
      | exact Kb.b5 fun _ _ _ _ _ _ _ _ _ _ _ => by kernel_rfl
      | exact Kb.b7 fun _ _ _ _ _ _ _ _ _ _ _ _ _ => by kernel_rfl
