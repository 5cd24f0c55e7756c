import Derived.Test.YtbbopknnoamkbaaGreatDoorU2
import Derived.Test.YtbbopknnoamkbaaGreatDoorA2
import Derived.Test.YtbbopknnoamkbaaGreatDoorN5
namespace Go.Proofs.YtbbopknnoamkbaaGreatDoor
set_option linter.unusedVariables false
theorem quot_pre{a:List UInt8}(hu:U8 a)(rest:List UInt8):quotL (strT a++rest)=.ok (a,(strT a).length):=by
 unfold quotL strT;simp only[List.cons_append,if_true,List.append_assoc,List.nil_append];unfold strL;rw[strF_sgns hu rest _ (by simp;omega)];simp
theorem nb_no(c:UInt8)(l:List UInt8)(h:isB c=false):nb (c::l)=0:=by rw[nb,if_neg (by simp[h])]
theorem valL_dig(d j n:Nat)(c:UInt8)(r:List UInt8)(h1:1≤n)(h2:n≤9)(hc:isD c=false):valL d (UInt8.ofNat (48+n)::c::r) j=.ok (.int (n:Int) j,1):=by
 obtain⟨d1,d2⟩:=digit_is n (by omega);have h34:UInt8.ofNat (48+n)≠34:=fun e=>by have:=congrArg UInt8.toNat e;rw[d2]at this;simp at this;omega
 have h45:UInt8.ofNat (48+n)≠45:=fun e=>by have:=congrArg UInt8.toNat e;rw[d2]at this;simp at this;omega
 have hI:intL (UInt8.ofNat (48+n)::c::r)=.ok ((n:Int),1):=by
  unfold intL;dsimp only;have e0:(if(UInt8.ofNat (48+n)::c::r).head?=some 45 then 1 else 0)=0:=by rw[List.head?_cons,if_neg (fun e=>h45 (Option.some.inj e))]
  have e1:nd (UInt8.ofNat (48+n)::c::r)=1:=by rw[nd,if_pos d1,nd,if_neg (by simp[hc])]
  rw[e0,List.drop_zero,e1];have e2:accN 0 ((UInt8.ofNat (48+n)::c::r).take 1)=n:=by
   show accN 0 [UInt8.ofNat (48+n)]=n
   rw[accN,accN,d2,if_pos (by unfold maxI;omega)];omega
  rw[e2,if_neg (by omega),if_neg (by unfold maxI;omega),if_neg (by omega)]
 rw[valL_cons,if_neg h34,if_pos (.inr d1),hI]
theorem objF_more(d f:Nat)(ks:List (List UInt8))(a r:List UInt8)(i n:Nat)(hu:U8 a)(hk:a∉ks)(h1:1≤n)(h2:n≤9):objF (valL d) (f+1) ks (strT a++58::UInt8.ofNat (48+n)::44::r) i=(match objF (valL d) f (ks++[a]) r (i+((strT a).length+3))with| .error e=>.error e| .ok (ms,k)=>.ok ((a,.int (n:Int) (i+((strT a).length+1)))::ms,(strT a).length+3+k)):=by
 have hq:=quot_pre hu (58::UInt8.ofNat (48+n)::44::r);have hnb:nb (strT a++58::UInt8.ofNat (48+n)::44::r)=0:=by unfold strT;rw[List.cons_append,List.cons_append];exact nb_no _ _ (by decide)
 obtain⟨d1,d2⟩:=digit_is n (by omega);have hdb:isB (UInt8.ofNat (48+n))=false:=by
  unfold isB;have hne:∀c:UInt8,c.toNat<48→(UInt8.ofNat (48+n)==c)=false:=fun c hc=>by
   simp only[beq_eq_false_iff_ne];intro e;have:=congrArg UInt8.toNat e;rw[d2]at this;omega
  rw[hne 32 (by decide),hne 9 (by decide),hne 10 (by decide),hne 13 (by decide)];rfl
 generalize hm:(strT a).length=m at *;have p0:(strT a++58::UInt8.ofNat (48+n)::44::r).drop m=58::UInt8.ofNat (48+n)::44::r:=List.drop_left' hm;have p1:(strT a++58::UInt8.ofNat (48+n)::44::r).drop (m+1)=UInt8.ofNat (48+n)::44::r:=by rw[←List.drop_drop,p0];rfl
 have p2:(strT a++58::UInt8.ofNat (48+n)::44::r).drop (m+1+1)=44::r:=by rw[←List.drop_drop,p1];rfl
 have p3:(strT a++58::UInt8.ofNat (48+n)::44::r).drop (m+1+1+1)=r:=by rw[←List.drop_drop,p2];rfl
 rw[objF];dsimp only;rw[hnb,List.drop_zero,hq];dsimp only;rw[if_neg hk,Nat.zero_add,p0,nb_no 58 _ (by decide),Nat.add_zero,p0];dsimp only;rw[if_pos rfl,p1,nb_no _ _ hdb,Nat.add_zero,p1,valL_dig d _ n 44 r h1 h2 (by decide)];dsimp only;rw[p2,nb_no 44 _ (by decide),Nat.add_zero,p2];dsimp only;rw[if_pos rfl,p3];all_goals rfl
theorem objF_last(d f:Nat)(ks:List (List UInt8))(a r:List UInt8)(i n:Nat)(hu:U8 a)(hk:a∉ks)(h1:1≤n)(h2:n≤9):objF (valL d) (f+1) ks (strT a++58::UInt8.ofNat (48+n)::125::r) i=.ok ([(a,.int (n:Int) (i+((strT a).length+1)))],(strT a).length+3):=by
 have hq:=quot_pre hu (58::UInt8.ofNat (48+n)::125::r);have hnb:nb (strT a++58::UInt8.ofNat (48+n)::125::r)=0:=by unfold strT;rw[List.cons_append,List.cons_append];exact nb_no _ _ (by decide)
 obtain⟨d1,d2⟩:=digit_is n (by omega);have hdb:isB (UInt8.ofNat (48+n))=false:=by
  unfold isB;have hne:∀c:UInt8,c.toNat<48→(UInt8.ofNat (48+n)==c)=false:=fun c hc=>by
   simp only[beq_eq_false_iff_ne];intro e;have:=congrArg UInt8.toNat e;rw[d2]at this;omega
  rw[hne 32 (by decide),hne 9 (by decide),hne 10 (by decide),hne 13 (by decide)];rfl
 generalize hm:(strT a).length=m at *;have p0:(strT a++58::UInt8.ofNat (48+n)::125::r).drop m=58::UInt8.ofNat (48+n)::125::r:=List.drop_left' hm;have p1:(strT a++58::UInt8.ofNat (48+n)::125::r).drop (m+1)=UInt8.ofNat (48+n)::125::r:=by rw[←List.drop_drop,p0];rfl
 have p2:(strT a++58::UInt8.ofNat (48+n)::125::r).drop (m+1+1)=125::r:=by rw[←List.drop_drop,p1];rfl
 rw[objF];dsimp only;rw[hnb,List.drop_zero,hq];dsimp only;rw[if_neg hk,Nat.zero_add,p0,nb_no 58 _ (by decide),Nat.add_zero,p0];dsimp only;rw[if_pos rfl,p1,nb_no _ _ hdb,Nat.add_zero,p1,valL_dig d _ n 125 r h1 h2 (by decide)];dsimp only;rw[p2,nb_no 125 _ (by decide),Nat.add_zero,p2];dsimp only;rw[if_neg (by decide),if_pos rfl]
def two(a b:List UInt8)(m n:Nat):List UInt8:=123::(strT a++58::UInt8.ofNat (48+m)::44::(strT b++58::UInt8.ofNat (48+n)::125::[]))
theorem readL_two{a b:List UInt8}(ha:U8 a)(hb:U8 b)(hab:a≠b)(m n:Nat)(m1:1≤m)(m2:m≤9)(n1:1≤n)(n2:n≤9)(hl:(two a b m n).length≤65536):∃i j,readL (two a b m n)=.ok (.obj [(a,.int (m:Int) i),(b,.int (n:Int) j)] 0):=by
 have hnb:nb (two a b m n)=0:=nb_no _ _ (by decide);have hlen:(two a b m n).length=1+((strT a).length+3+((strT b).length+3)):=by unfold two;simp;omega
 have hO:∃i j,objL (valL 31) (two a b m n) 0=.ok (.obj [(a,.int (m:Int) i),(b,.int (n:Int) j)] 0,(two a b m n).length):=by
  have hd1:(two a b m n).drop 1=strT a++58::UInt8.ofNat (48+m)::44::(strT b++58::UInt8.ofNat (48+n)::125::[]):=rfl;have hb1:nb ((two a b m n).drop 1)=0:=by rw[hd1];unfold strT;rw[List.cons_append,List.cons_append];exact nb_no _ _ (by decide)
  obtain⟨f,hf⟩:∃f,(two a b m n).length+1=f+1+1:=⟨(two a b m n).length-1,by omega⟩;refine⟨1+((strT a).length+1),1+((strT a).length+3)+((strT b).length+1),?_⟩;unfold objL;dsimp only;rw[hb1,Nat.add_zero];rw[if_neg (by rw[hd1];unfold strT;simp),hf,hd1,objF_more 31 (f+1) [] a _ _ m ha (by simp) m1 m2,objF_last 31 f _ b [] _ n hb (by simpa using Ne.symm hab) n1 n2];dsimp only;rw[hlen]
 obtain⟨i,j,hO⟩:=hO;refine⟨i,j,?_⟩;have hc:two a b m n=123::(two a b m n).drop 1:=rfl;have hv:valL 32 (two a b m n) 0=.ok (.obj [(a,.int (m:Int) i),(b,.int (n:Int) j)] 0,(two a b m n).length):=by
  rw[hc,valL_cons,←hc];rw[if_neg (by decide),if_neg (by decide),if_neg (by decide),if_pos (by decide)];dsimp only;rw[if_neg (by decide)];exact hO
 unfold readL;rw[if_neg (by omega)];dsimp only;rw[hnb,List.drop_zero,hv];dsimp only;rw[Nat.zero_add,List.drop_of_length_le (Nat.le_refl _)];rw[if_neg (by simp[nb])]
theorem form_two(a b:List UInt8)(m n i j:Nat)(m1:1≤m)(m2:m≤9)(n1:1≤n)(n2:n≤9):formN (flat 0 [] (.obj [(a,.int (m:Int) i),(b,.int (n:Int) j)] 0)) (flat 0 [] (.obj [(a,.int (m:Int) i),(b,.int (n:Int) j)] 0)).length 0=if aheadL b a=true then two b a n m else two a b m n:=by
 have hfl:flat 0 [] (.obj [(a,.int (m:Int) i),(b,.int (n:Int) j)] 0)=[⟨5,[],[],0,[1,2],0⟩,⟨2,a,[],m,[],i⟩,⟨2,b,[],n,[],j⟩]:=rfl;rw[hfl];generalize hL:[(⟨5,[],[],0,[1,2],0⟩:Nd),⟨2,a,[],m,[],i⟩,⟨2,b,[],n,[],j⟩]=L;have l0:L[0]?=some ⟨5,[],[],0,[1,2],0⟩:=by rw[←hL];rfl
 have l1:L[1]?=some ⟨2,a,[],m,[],i⟩:=by rw[←hL];rfl
 have l2:L[2]?=some ⟨2,b,[],n,[],j⟩:=by rw[←hL];rfl
 have hlen:L.length=3:=by rw[←hL];rfl
 have dg:∀x:Nat,1≤x→x≤9→decI (x:Int)=[UInt8.ofNat (48+x)]:=fun x h1 h2=>by
  unfold decI;rw[if_neg (by omega),Int.toNat_natCast,decN_small x (by omega)]
 have f1:memF L (formN L 2) 1=strT a++58::[UInt8.ofNat (48+m)]:=by
  unfold memF;rw[keyL_of l1];simp[formN,l1,dg m m1 m2]
 have f2:memF L (formN L 2) 2=strT b++58::[UInt8.ofNat (48+n)]:=by
  unfold memF;rw[keyL_of l2];simp[formN,l2,dg n n1 n2]
 have hlt:ltK L 2 1=aheadL b a:=by unfold ltK;rw[keyL_of l1,keyL_of l2]
 have hs:srt (ltK L) [1,2]=if aheadL b a=true then [2,1]else [1,2]:=by
  rw[←hlt];by_cases h:ltK L 2 1=true<;>simp[srt,insL,insR,h]
 rw[hlen,formN,l0];dsimp only;rw[if_neg (by decide),if_neg (by decide),if_neg (by decide),if_neg (by decide),if_neg (by decide),hs];by_cases h:aheadL b a=true
 ·rw[if_pos h,if_pos h]
  simp[bodyTo,f1,f2,two]
 ·rw[if_neg h,if_neg h]
  simp[bodyTo,f1,f2,two]
theorem prF_two{a b:List UInt8}(ha:U8 a)(hb:U8 b)(hab:a≠b)(m n:Nat)(m1:1≤m)(m2:m≤9)(n1:1≤n)(n2:n≤9)(hl:(two a b m n).length≤65536):prF (readL (two a b m n))=(if aheadL b a=true then two b a n m else two a b m n,0,0):=by
 obtain⟨i,j,hR⟩:=readL_two ha hb hab m n m1 m2 n1 n2 hl;rw[hR];unfold prF;simp only;rw[form_two a b m n i j m1 m2 n1 n2]
theorem ahead_or{a b:List UInt8}(ha:U8 a)(hb:U8 b)(hab:a≠b):aheadL b a=!aheadL a b:=by
 have hne:unitsL a≠unitsL b:=fun e=>hab (units_inj ha hb e)
 unfold aheadL;cases h:aheadU (unitsL a) (unitsL b)with
 | true=>simpa using aheadU_asym _ _ h
 | false=>simpa using aheadU_tot _ _ hne h
open Go.RowKit
def txt2(p q:ByteArray)(m n:UInt8):ByteArray:=(⟨#[123]⟩:ByteArray)++p++⟨#[58,m,44]⟩++q++⟨#[58,n,125]⟩
theorem txt2_list(a b:List UInt8)(m n:Nat):(txt2 ⟨(strT a).toArray⟩ ⟨(strT b).toArray⟩ (UInt8.ofNat (48+m)) (UInt8.ofNat (48+n))).data.toList=two a b m n:=by
 unfold txt2 two;simp
theorem ba_ext{x y:ByteArray}(h:x.data.toList=y.data.toList):x=y:=by
 rw[←ba_eta x,←ba_eta y,h]
theorem txt2_eq(a b:List UInt8)(m n:Nat):(⟨(two a b m n).toArray⟩:ByteArray)=txt2 ⟨(strT a).toArray⟩ ⟨(strT b).toArray⟩ (UInt8.ofNat (48+m)) (UInt8.ofNat (48+n)):=
 ba_ext (by rw[txt2_list])
theorem two_len(a b:List UInt8)(m n:Nat):(two a b m n).length≤6*a.length+6*b.length+11:=by
 have h1:=strT_len a;have h2:=strT_len b;unfold two;simp;omega
theorem print_two(a b:List UInt8)(ha:U8 a)(hb:U8 b)(hab:a≠b)(m n:Nat)(m1:1≤m)(m2:m≤9)(n1:1≤n)(n2:n≤9)(hl:6*a.length+6*b.length+20≤65536)(w:World)(hg:9≤w.heap.size)(hG:GV w)(htab:Lib.TabBelow Tryz.prog w.heap.size w "internal/strconv.uint64pow10" .u64 Lib.pow10Tab)(P Q:ByteArray)(hP:P=⟨(strT a).toArray⟩)(hQ:Q=⟨(strT b).toArray⟩):Calls Tryz.prog 16 #[.string (txt2 P Q (UInt8.ofNat (48+m)) (UInt8.ofNat (48+n)))] w fun r w'=>r=.returned (.tuple #[.string (if aheadL b a=true then txt2 Q P (UInt8.ofNat (48+n)) (UInt8.ofNat (48+m))else txt2 P Q (UInt8.ofNat (48+m)) (UInt8.ofNat (48+n))),.int .i64 0,.int .i64 0])∧Below w.heap.size w w':=by
 have hc:=cprint (txt2 P Q (UInt8.ofNat (48+m)) (UInt8.ofNat (48+n))) w hg hG htab;have e:(txt2 P Q (UInt8.ofNat (48+m)) (UInt8.ofNat (48+n))).data.toList=two a b m n:=by rw[hP,hQ];exact txt2_list a b m n
 rw[e,prF_two ha hb hab m n m1 m2 n1 n2 (by have:=two_len a b m n;omega)]at hc;refine hc.mono ?_;rintro r w' ⟨rfl,hb'⟩;refine⟨?_,hb'⟩;by_cases h:aheadL b a=true
 ·simp only[h,if_true];rw[txt2_eq,←hP,←hQ];rfl
 ·simp only[h];rw[if_neg (by simp),if_neg (by simp),txt2_eq,←hP,←hQ];rfl
set_option maxRecDepth 100000 in
set_option maxHeartbeats 4000000 in
theorem lordered(a b:ByteArray)(w:World)(hg:9≤w.heap.size)(hG:GV w)(htab:Lib.TabBelow Tryz.prog w.heap.size w "internal/strconv.uint64pow10" .u64 Lib.pow10Tab)(hs:a.size≤140737488351232)(hs':b.size≤140737488351232):Calls Tryz.prog 6 #[.string a,.string b] w fun r w'=>r=.returned (.bool true)∧Below w.heap.size w w':=by
 have hra:=rright a w hs;have hrb:=rright b w hs';have hnm:=fun e w'=>lnumN e w'
 by_cases hu:U8 a.data.toList
 ·by_cases hv:U8 b.data.toList
  ·by_cases hab:a.toList=b.toList
   ·have b1:(a.toList==b.toList)=true:=beq_iff_eq.2 hab
    clear hab;have HU:=Lib.hid hu;have HV:=Lib.hid hv;clear hu hv;go_enter Tryz.func6,Tryz.ntmps6;go_wp2_with fail
    refine hra.mono ?_;rintro r w' ⟨⟨x,rfl,hx⟩,rfl⟩;obtain rfl:x=true:=hx.2 HU.out;clear hx hra;go_wp2_with fail
    refine hrb.mono ?_;rintro r w' ⟨⟨x,rfl,hx⟩,rfl⟩;obtain rfl:x=true:=hx.2 HV.out;clear hx hrb;go_wp2;go_ret;exact⟨rfl,Below.refl _ _⟩
   ·have b1:(a.toList==b.toList)=false:=beq_eq_false_iff_ne.2 hab
    by_cases hbig:65536<6*a.size+6*b.size+20
    ·have i1:(65536:Int)<6*(a.size:Int)+6*(b.size:Int)+20:=by omega
     have HU:=Lib.hid hu;have HV:=Lib.hid hv;clear hu hv hab;go_enter Tryz.func6,Tryz.ntmps6;go_wp2_with fail
     refine hra.mono ?_;rintro r w' ⟨⟨x,rfl,hx⟩,rfl⟩;obtain rfl:x=true:=hx.2 HU.out;clear hx hra;go_wp2_with fail
     refine hrb.mono ?_;rintro r w' ⟨⟨x,rfl,hx⟩,rfl⟩;obtain rfl:x=true:=hx.2 HV.out;clear hx hrb;go_wp2;go_ret;exact⟨rfl,Below.refl _ _⟩
    ·have i1:decide ((65536:Int)<6*(a.size:Int)+6*(b.size:Int)+20)=false:=by simp;omega
     have hne:a.data.toList≠b.data.toList:=fun e=>hab (by rw[ba_ext e])
     have hla:a.data.toList.length=a.size:=by simp
     have hlb:b.data.toList.length=b.size:=by simp
     have hsa:=rstrT a w (by omega);have hsb:=fun w'=>rstrT b w' (by omega)
     have hah:=fun w'=>rahead a b w' (by omega) (by omega)
     have hor:=ahead_or hu hv hne;have hor':=ahead_or hv hu (Ne.symm hne);have e49:UInt8.ofNat (48+1)=49:=by decide
     have e50:UInt8.ofNat (48+2)=50:=by decide
     have hp1:∀P Q,P=(⟨(strT a.data.toList).toArray⟩:ByteArray)→Q=(⟨(strT b.data.toList).toArray⟩:ByteArray)→∀w1,Below w.heap.size w w1→Calls Tryz.prog 16 #[.string (txt2 P Q 49 50)] w1 fun r w'=>r=.returned (.tuple #[.string (if aheadL b.data.toList a.data.toList=true then txt2 Q P 50 49 else txt2 P Q 49 50),.int .i64 0,.int .i64 0])∧Below w1.heap.size w1 w':=fun P Q hP hQ w1 b1=>by
      have hz:=b1.size;have:=print_two a.data.toList b.data.toList hu hv hne 1 2 (by omega) (by omega) (by omega) (by omega) (by omega) w1 (by omega) (hG.kept fun k hk=>b1.block k (by omega)) (fun w' hb=>htab w' (b1.trans (hb.mono hz))) P Q hP hQ;rw[e49,e50]at this;exact this
     have hp2:∀P Q,P=(⟨(strT a.data.toList).toArray⟩:ByteArray)→Q=(⟨(strT b.data.toList).toArray⟩:ByteArray)→∀w1,Below w.heap.size w w1→Calls Tryz.prog 16 #[.string (txt2 Q P 50 49)] w1 fun r w'=>r=.returned (.tuple #[.string (if aheadL a.data.toList b.data.toList=true then txt2 P Q 49 50 else txt2 Q P 50 49),.int .i64 0,.int .i64 0])∧Below w1.heap.size w1 w':=fun P Q hP hQ w1 b1=>by
      have hz:=b1.size;have:=print_two b.data.toList a.data.toList hv hu (Ne.symm hne) 2 1 (by omega) (by omega) (by omega) (by omega) (by omega) w1 (by omega) (hG.kept fun k hk=>b1.block k (by omega)) (fun w' hb=>htab w' (b1.trans (hb.mono hz))) Q P hQ hP;rw[e49,e50]at this;exact this
     have hta:(⟨(strT a.data.toList).toArray⟩:ByteArray).size≤65536:=by have:=strT_len a.data.toList;show(strT a.data.toList).toArray.size≤_;simp only[List.size_toArray];omega
     have htb:(⟨(strT b.data.toList).toArray⟩:ByteArray).size≤65536:=by have:=strT_len b.data.toList;show(strT b.data.toList).toArray.size≤_;simp only[List.size_toArray];omega
     have hq1:=hp1 _ _ rfl rfl;have hq2:=hp2 _ _ rfl rfl;rw[hor]at hq1;generalize (⟨(strT a.data.toList).toArray⟩:ByteArray)=TA at hsa hq1 hq2 hta;generalize (⟨(strT b.data.toList).toArray⟩:ByteArray)=TB at hsb hq1 hq2 htb;generalize aheadL a.data.toList b.data.toList=AH at hq1 hq2 hah;obtain⟨R,hR1,hR2⟩:∃R,(if AH=true then txt2 TA TB 49 50 else txt2 TB TA 50 49)=R∧(if(!AH)=true then txt2 TB TA 50 49 else txt2 TA TB 49 50)=R:=⟨_,rfl,by cases AH<;>rfl⟩;rw[hR2]at hq1;rw[hR1]at hq2;unfold txt2 at hq1 hq2 hR1;have HU:=Lib.hid hu;have HV:=Lib.hid hv;have HQ1:=Lib.hid hq1;have HQ2:=Lib.hid hq2;have HSB:=Lib.hid hsb;have HAH:=Lib.hid hah;have HR:=Lib.hid hR1;clear hR1 hR2;clear hu hv hab hor hor' e49 e50 hp1 hp2 hq1 hq2 hla hlb hne hG htab hbig hsb hah;go_enter Tryz.func6,Tryz.ntmps6;go_wp2_with fail
     refine hra.mono ?_;rintro r w' ⟨⟨x,rfl,hx⟩,rfl⟩;obtain rfl:x=true:=hx.2 HU.out;clear hx hra;go_wp2_with fail
     refine hrb.mono ?_;rintro r w' ⟨⟨x,rfl,hx⟩,rfl⟩;obtain rfl:x=true:=hx.2 HV.out;clear hx hrb;go_wp2_with fail
     refine hsa.mono ?_;rintro r w1 ⟨rfl,c1⟩;have B1:=Lib.hid c1;clear c1 hsa;go_wp2_with fail
     refine(HSB.out w1).mono ?_;rintro r w2 ⟨rfl,c2⟩;have B2:=Lib.hid (B1.out.trans (c2.mono B1.out.size));clear c2;go_wp2_with fail
     refine(HQ1.out w2 B2.out).mono ?_;rintro r w3 ⟨rfl,c3⟩;have B3:=Lib.hid (B2.out.trans (c3.mono B2.out.size));clear c3;go_wp2_with fail
     refine(HQ2.out w3 B3.out).mono ?_;rintro r w4 ⟨rfl,c4⟩;have B4:=Lib.hid (B3.out.trans (c4.mono B3.out.size));clear c4;go_wp2_with fail
     refine(HAH.out w4).mono ?_;rintro r w5 ⟨rfl,c5⟩;have B5:=Lib.hid (B4.out.trans (c5.mono B4.out.size));clear c5;cases AH with
     | true=>
       have hR:=HR.out;rw[if_pos rfl]at hR;subst hR;go_wp2_with (go_at_call 18;refine(hnm _ _).mono ?_;rintro e w' ⟨rfl,rfl⟩)
       go_ret;exact⟨rfl,B5.out⟩
     | false=>
       have hR:=HR.out;rw[if_neg (by decide)]at hR;subst hR;go_wp2_with (go_at_call 18;refine(hnm _ _).mono ?_;rintro e w' ⟨rfl,rfl⟩)
       go_ret;exact⟨rfl,B5.out⟩
  ·have HU:=Lib.hid hu
   have HV:=Lib.hid hv;clear hu hv;go_enter Tryz.func6,Tryz.ntmps6;go_wp2_with fail
   refine hra.mono ?_;rintro r w' ⟨⟨x,rfl,hx⟩,rfl⟩;obtain rfl:x=true:=hx.2 HU.out;clear hx hra;go_wp2_with fail
   refine hrb.mono ?_;rintro r w' ⟨⟨x,rfl,hx⟩,rfl⟩;obtain rfl:x=false:=by
    cases x with
    | false=>rfl
    | true=>exact absurd (hx.1 rfl) HV.out
   clear hx hrb;go_wp2;go_ret;exact⟨rfl,Below.refl _ _⟩
 ·have HU:=Lib.hid hu
  clear hu;go_enter Tryz.func6,Tryz.ntmps6;go_wp2_with fail
  refine hra.mono ?_;rintro r w' ⟨⟨x,rfl,hx⟩,rfl⟩;obtain rfl:x=false:=by
   cases x with
   | false=>rfl
   | true=>exact absurd (hx.1 rfl) HU.out
  clear hx hra;go_wp2_with fail
  refine hrb.mono ?_;rintro r w' ⟨⟨x,rfl,hx⟩,rfl⟩;clear hx hrb;go_wp2;go_ret;exact⟨rfl,Below.refl _ _⟩
end Go.Proofs.YtbbopknnoamkbaaGreatDoor
