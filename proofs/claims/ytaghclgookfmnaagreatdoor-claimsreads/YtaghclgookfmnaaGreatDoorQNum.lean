import Derived.Test.YtaghclgookfmnaaGreatDoorQSort
namespace Go.Proofs.YtaghclgookfmnaaGreatDoor
set_option linter.unusedVariables false
theorem digit_is(d:Nat)(h:d<10):isD (UInt8.ofNat (48+d))=true∧(UInt8.ofNat (48+d)).toNat=48+d:=by
 have e:(UInt8.ofNat (48+d)).toNat=48+d:=ofNat_toNat _ (by omega);refine⟨?_,e⟩;unfold isD;rw[e];simp;omega
theorem nd_app(a b:List UInt8)(ha:nd a=a.length):nd (a++b)=a.length+nd b:=by
 induction a with
 | nil=>simp
 | cons c r ih=>
   rw[nd]at ha;split at ha
   ·rename_i hc
    rw[List.cons_append,nd,if_pos hc,ih (by simp at ha;exact ha)];simp;omega
   ·simp at ha
theorem accN_app:∀(a:List UInt8) (n:Nat) (c:UInt8),accN n (a++[c])=(if accN n a≤maxI then 10*accN n a+(c.toNat-48)else accN n a)
 | [],n,c=>rfl
 | b::r,n,c=>by rw[List.cons_append,accN,accN_app r];rfl
theorem decN_facts(x:Nat):nd (decN x)=(decN x).length∧1≤(decN x).length∧(10≤x→(decN x).head?≠some 48)∧(1<(decN x).length→10≤x)∧(1≤x→(decN x).head?≠some 48)∧((x/10≤maxI→accN 0 (decN x)=x)∧(maxI<x/10→maxI<accN 0 (decN x))):=by
 induction x using Nat.strongRecOn with
 | ind x ih=>
   by_cases h:x<10
   ·obtain⟨d1,d2⟩:=digit_is x h
    rw[decN_small x h];refine⟨by rw[nd,if_pos d1];rfl,by simp,by omega,by simp,fun h1 e=>?_,fun _=>?_,fun hh=>?_⟩
    ·simp only[List.head?_cons,Option.some.injEq]at e
     have:=congrArg UInt8.toNat e;rw[d2]at this;simp at this;omega
    ·simp only[accN,d2]
     rw[if_pos (by unfold maxI;omega)];omega
    ·unfold maxI at hh;omega
   ·obtain⟨i1,i2,i3,i4,i5,i6,i7⟩:=ih (x/10) (by omega)
    obtain⟨d1,d2⟩:=digit_is (x%10) (by omega);rw[decN_big x (by omega)];have hh:(decN (x/10)++[UInt8.ofNat (48+x%10)]).head?=(decN (x/10)).head?:=by
     cases hq:decN (x/10)with
     | nil=>rw[hq]at i2;simp at i2
     | cons a r=>rfl
    refine⟨?_,by rw[List.length_append];omega,fun _=>?_,fun _=>by omega,fun _=>?_,fun hm=>?_,fun hm=>?_⟩
    ·rw[nd_app _ _ i1,List.length_append,nd,if_pos d1];rfl
    ·rw[hh];exact i5 (by omega)
    ·rw[hh];exact i5 (by omega)
    ·rw[accN_app,i6 (by omega),if_pos hm,d2];omega
    ·rw[accN_app]
     by_cases h9:x/10/10≤maxI
     ·rw[i6 h9,if_neg (by omega)];exact hm
     ·have:=i7 (by omega)
      rw[if_neg (by omega)];exact this
theorem decN_acc(x:Nat):(maxI<accN 0 (decN x)↔maxI<x)∧(x≤maxI→accN 0 (decN x)=x):=by
 obtain⟨_,_,_,_,_,a,b⟩:=decN_facts x;by_cases h:x/10≤maxI
 ·rw[a h];exact⟨Iff.rfl,fun _=>rfl⟩
 ·have h1:=b (by omega)
  refine⟨⟨fun _=>?_,fun _=>h1⟩,fun hx=>?_⟩
  ·have:=Nat.div_le_self x 10;omega
  ·have:=Nat.div_le_self x 10;omega
theorem decI_abs(n:Int):∃x:Nat,x=n.natAbs∧((n<0∧decI n=45::decN x∧1≤x)∨(0≤n∧decI n=decN x)):=by
 refine⟨n.natAbs,rfl,?_⟩;unfold decI;by_cases h:n<0
 ·rw[if_pos h]
  refine .inl ⟨h,?_,by omega⟩;rw[show(-n).toNat=n.natAbs by omega]
 ·rw[if_neg h]
  refine .inr ⟨by omega,?_⟩;rw[show n.toNat=n.natAbs by omega]
theorem decN_head(x:Nat):∃c r,decN x=c::r∧isD c=true∧c≠45:=by
 obtain⟨h1,h2,_⟩:=decN_facts x;cases hq:decN x with
 | nil=>rw[hq]at h2;simp at h2
 | cons c r=>
   rw[hq,nd]at h1;split at h1
   ·rename_i hc
    exact⟨c,r,rfl,hc,fun e=>by subst e;simp[isD]at hc⟩
   ·simp at h1
def numR(n:Int):Except (Nat×Nat) JT:=if n< -9007199254740991∨9007199254740991<n then .error (3,0)else .ok (.int n 0)
theorem intL_dec(n:Int):intL (decI n)=(if n< -9007199254740991∨9007199254740991<n then .error (3,0)else .ok (n,(decI n).length)):=by
 obtain⟨x,hx,hc⟩:=decI_abs n;obtain⟨f1,f2,f3,f4,_,_⟩:=decN_facts x;obtain⟨a1,a2⟩:=decN_acc x;obtain⟨c,r,hcr,hcd,hc45⟩:=decN_head x;unfold intL;dsimp only;rcases hc with⟨hn,hd,hx1⟩|⟨hn,hd⟩
 ·rw[hd]
  have e0:(if(45::decN x).head?=some 45 then 1 else 0)=1:=by simp
  rw[e0,List.drop_one,List.tail_cons,f1,List.take_length]
  rw[if_neg (by rintro(h|⟨h1,h2⟩);· omega
                ·exact f3 (f4 h1) h2)]
  by_cases hb:maxI<x
  ·rw[if_pos (a1.2 hb),if_pos (by unfold maxI at hb;omega)]
  ·rw[if_neg (fun h=>hb (a1.1 h)),if_pos rfl,a2 (by omega),if_neg (show ¬(n< -9007199254740991∨9007199254740991<n)by unfold maxI at hb;omega)]
   rw[List.length_cons];have e1:(-(x:Int))=n:=by omega
   rw[e1,Nat.add_comm]
 ·rw[hd]
  have e0:(if(decN x).head?=some 45 then 1 else 0)=0:=by rw[hcr];simp[hc45]
  rw[e0,List.drop_zero,f1,List.take_length]
  rw[if_neg (by rintro(h|⟨h1,h2⟩);· omega
                ·exact f3 (f4 h1) h2)]
  by_cases hb:maxI<x
  ·rw[if_pos (a1.2 hb),if_pos (by unfold maxI at hb;omega)]
  ·rw[if_neg (fun h=>hb (a1.1 h)),if_neg (show ¬(0=1)by omega),a2 (by omega),if_neg (show ¬(n< -9007199254740991∨9007199254740991<n)by unfold maxI at hb;omega)]
   have e1:((x:Nat):Int)=n:=by omega
   rw[e1,Nat.zero_add]
theorem readL_dec(n:Int)(h0: -9223372036854775808≤n)(h1:n≤9223372036854775807):readL (decI n)=numR n:=by
 have hlen:=decI_len n h0 h1;have hI:=intL_dec n;obtain⟨c,r,hcr,hcd⟩:∃c r,decI n=c::r∧(c=45∨isD c=true):=by
  obtain⟨x,hx,hc⟩:=decI_abs n;rcases hc with⟨_,hd,_⟩|⟨_,hd⟩
  ·exact⟨45,_,hd,.inl rfl⟩
  ·obtain⟨c,r,hcr,h2,_⟩:=decN_head x
   exact⟨c,r,by rw[hd,hcr],.inr h2⟩
 have hnb:nb (decI n)=0:=by
  rw[hcr,nb,if_neg];rcases hcd with rfl|h
  ·simp[isB]
  ·intro hb
   unfold isB at hb;unfold isD at h;simp only[Bool.or_eq_true,beq_iff_eq,Bool.and_eq_true,decide_eq_true_eq]at hb h;rcases hb with((rfl|rfl)|rfl)|rfl<;>simp at h
 have h34:c≠34:=by
  intro e;subst e;rcases hcd with h|h
  ·simp at h
  ·simp[isD]at h
 unfold readL;rw[if_neg (by omega)];dsimp only;rw[hnb,List.drop_zero,hcr,valL_cons,if_neg h34,if_pos hcd,←hcr,hI];unfold numR;by_cases hb:n< -9007199254740991∨9007199254740991<n
 ·rw[if_pos hb,if_pos hb]
 ·rw[if_neg hb,if_neg hb]
  dsimp only;rw[Nat.zero_add,List.drop_of_length_le (Nat.le_refl _)];rw[if_neg (by simp[nb])]
theorem form_int(n:Int):formN (flat 0 [] (.int n 0)) (flat 0 [] (.int n 0)).length 0=decI n:=by
 simp[flat,formN]
end Go.Proofs.YtaghclgookfmnaaGreatDoor
