import Derived.Test.YtbbopknnoamkbaaGreatDoorG1
import Derived.Test.YtbbopknnoamkbaaGreatDoorX4
import Derived.Test.YtbbopknnoamkbaaGreatDoorGF
import Derived.Test.YtbbopknnoamkbaaGreatDoorG0
namespace Go.Proofs.YtbbopknnoamkbaaGreatDoor
set_option linter.unusedVariables false
theorem hex_low:∀n,n<32→hexv (lowC (n/16))=some (n/16)∧hexv (lowC (n%16))=some (n%16):=by decide
theorem four_low(c:UInt8)(hc:c.toNat<32)(l:List UInt8):four4 (48::48::lowC (c.toNat/16)::lowC (c.toNat%16)::l)=(some c.toNat,4):=by
 obtain⟨h1,h2⟩:=hex_low c.toNat hc;have h0:hexv 48=some 0:=by decide
 unfold four4;simp only[fourG,h0,h1,h2];refine Prod.ext ?_ rfl;simp only[Option.some.injEq];omega
theorem strF_esc(f:Nat)(t:List UInt8)(n:Nat)(l:List UInt8)(h:escL (92::l)=.ok (t,n)):strF (f+1) (92::l)=shiftS t n (strF f ((92::l).drop n)):=by
 rw[strF];simp[h]
theorem strF_seq(f:Nat)(a l:List UInt8)(h0:a≠[])(h:seqLen a=a.length)(hc:∀c r,a=c::r→c≠34∧32≤c.toNat∧c≠92):strF (f+1) (a++l)=shiftS a a.length (strF f l):=by
 match a,h0 with
 | c::r,_=>
   obtain⟨c1,c2,c3⟩:=hc c r rfl;have hs:=seqLen_app (c::r) l (by simp) h;rw[List.cons_append]at hs ⊢;rw[strF];rw[if_neg c1,if_neg (by omega),if_neg c3,hs,if_neg (by simp)];rw[←List.cons_append,List.take_left' rfl,List.drop_left' rfl]
theorem sgnsL_one(c:UInt8):sgnsL [c]=sgnL c:=by simp[sgnsL]
theorem sgnL_high(c:UInt8)(h:128≤c.toNat):sgnL c=[c]:=by
 have hne:∀d:UInt8,d.toNat<128→c≠d:=fun d hd e=>by rw[e]at h;omega
 unfold sgnL;rw[if_neg (by rintro(e|e)<;>exact hne _ (by decide) e),if_neg (hne _ (by decide)),if_neg (hne _ (by decide)),if_neg (hne _ (by decide)),if_neg (hne _ (by decide)),if_neg (hne _ (by decide)),if_neg (by omega)]
theorem seq_step(a:List UInt8)(h0:a≠[])(h:seqLen a=a.length)(l:List UInt8)(f:Nat):strF (f+1) (sgnsL a++l)=shiftS a (sgnsL a).length (strF f l):=by
 rcases seq_cases a h0 h with⟨c,rfl,p⟩|⟨c,d,rfl,p⟩|⟨c,d,e,rfl,p⟩|⟨c,d,e,g,rfl,p⟩
 ·rw[sgnsL_one]
  by_cases h1:c=34∨c=92
  ·have e:sgnL c=[92,c]:=by unfold sgnL;rw[if_pos h1]
   rw[e];rw[show [92,c]++l=92::(c::l)from rfl,strF_esc f [c] 2 (c::l) (by rcases h1 with rfl|rfl<;>simp[escL,esc1])];rfl
  ·by_cases h2:c=8
   ·subst h2;rw[show sgnL 8=[92,98]by decide,show [92,98]++l=92::(98::l)from rfl,strF_esc f [8] 2 (98::l) (by simp[escL,esc1])];rfl
   by_cases h3:c=9
   ·subst h3;rw[show sgnL 9=[92,116]by decide,show [92,116]++l=92::(116::l)from rfl,strF_esc f [9] 2 (116::l) (by simp[escL,esc1])];rfl
   by_cases h4:c=10
   ·subst h4;rw[show sgnL 10=[92,110]by decide,show [92,110]++l=92::(110::l)from rfl,strF_esc f [10] 2 (110::l) (by simp[escL,esc1])];rfl
   by_cases h5:c=12
   ·subst h5;rw[show sgnL 12=[92,102]by decide,show [92,102]++l=92::(102::l)from rfl,strF_esc f [12] 2 (102::l) (by simp[escL,esc1])];rfl
   by_cases h6:c=13
   ·subst h6;rw[show sgnL 13=[92,114]by decide,show [92,114]++l=92::(114::l)from rfl,strF_esc f [13] 2 (114::l) (by simp[escL,esc1])];rfl
   by_cases h7:c.toNat<32
   ·have e:sgnL c=[92,117,48,48,lowC (c.toNat/16),lowC (c.toNat%16)]:=by
     unfold sgnL;rw[if_neg h1,if_neg h2,if_neg h3,if_neg h4,if_neg h5,if_neg h6,if_pos h7]
    have e2:wr8 c.toNat=[c]:=by unfold wr8;rw[if_pos (by omega)];simp
    rw[e];rw[show [92,117,48,48,lowC (c.toNat/16),lowC (c.toNat%16)]++l=92::(117::48::48::lowC (c.toNat/16)::lowC (c.toNat%16)::l)from rfl];rw[strF_esc f [c] 6 _ ?_]
    ·rfl
    ·have e3:esc1 117=none:=by decide
     simp only[escL,e3,if_true,four_low c h7 l,pairL];rw[if_pos (by omega),e2]
   ·have e:sgnL c=[c]:=by unfold sgnL;rw[if_neg h1,if_neg h2,if_neg h3,if_neg h4,if_neg h5,if_neg h6,if_neg h7]
    rw[e];exact strF_seq f [c] l h0 h (fun c' r hr=>by
     injection hr with hr _;subst hr;exact⟨fun e=>h1 (.inl e),by omega,fun e=>h1 (.inr e)⟩)
 ·rw[show sgnsL [c,d]=[c,d]by simp[sgnsL,sgnL_high c (by omega),sgnL_high d (by omega)]]
  exact strF_seq f [c,d] l h0 h (fun c' r hr=>by
   injection hr with hr _;subst hr;refine⟨fun e'=>?_,by omega,fun e'=>?_⟩<;>(rw[e']at p;simp at p))
 ·rw[show sgnsL [c,d,e]=[c,d,e]by simp[sgnsL,sgnL_high c (by omega),sgnL_high d (by omega),sgnL_high e (by omega)]]
  exact strF_seq f [c,d,e] l h0 h (fun c' r hr=>by
   injection hr with hr _;subst hr;refine⟨fun e'=>?_,by omega,fun e'=>?_⟩<;>(rw[e']at p;simp at p))
 ·rw[show sgnsL [c,d,e,g]=[c,d,e,g]by simp[sgnsL,sgnL_high c (by omega),sgnL_high d (by omega),sgnL_high e (by omega),sgnL_high g (by omega)]]
  exact strF_seq f [c,d,e,g] l h0 h (fun c' r hr=>by
   injection hr with hr _;subst hr;refine⟨fun e'=>?_,by omega,fun e'=>?_⟩<;>(rw[e']at p;simp at p))
theorem sgnL_pos(c:UInt8):1≤(sgnL c).length:=by
 unfold sgnL;repeat' split
 all_goals simp
theorem sgnsL_pos(a:List UInt8)(h:a≠[]):1≤(sgnsL a).length:=by
 match a,h with
 | c::r,_=>have:=sgnL_pos c;simp only[sgnsL,List.length_append];omega
theorem strF_sgns{s:List UInt8}(hu:U8 s):∀(rest:List UInt8) (f:Nat),(sgnsL s).length<f→strF f (sgnsL s++34::rest)=.ok (s,(sgnsL s).length+1):=by
 induction hu with
 | nil=>
   intro rest f hf;obtain⟨f,rfl⟩:∃g,f=g+1:=⟨f-1,by omega⟩;simp[sgnsL,strF]
 | cons a r h0 h _ ih=>
   intro rest f hf;obtain⟨f,rfl⟩:∃g,f=g+1:=⟨f-1,by omega⟩;have hp:=sgnsL_pos a h0;rw[sgnsL_append,List.length_append]at hf;rw[sgnsL_append,List.append_assoc,seq_step a h0 h,ih rest f (by omega)];simp only[shiftS,List.length_append];rw[Nat.add_assoc]
theorem quotL_strT{s:List UInt8}(hu:U8 s):quotL (strT s)=.ok (s,(strT s).length):=by
 unfold quotL strT;simp only[List.cons_append,if_true];unfold strL;rw[strF_sgns hu [] _ (by simp;omega)];simp
theorem readL_strT{s:List UInt8}(hu:U8 s)(hl:(strT s).length≤65536):readL (strT s)=.ok (.str s 0):=by
 have hq:=quotL_strT hu;have hc:∃r,strT s=34::r:=⟨_,rfl⟩;obtain⟨r,hr⟩:=hc;have hnb:nb (strT s)=0:=by rw[hr,nb,if_neg (by decide)]
 unfold readL;rw[if_neg (by omega)];dsimp only;rw[hnb,List.drop_zero,hr,valL_cons,if_pos rfl,←hr,hq];dsimp only;rw[Nat.zero_add,List.drop_of_length_le (Nat.le_refl _)];rw[if_neg (by simp[nb])]
theorem strF_back:∀(f:Nat) (s t:List UInt8) (n:Nat),(∀c∈s,c≠34∧c≠92)→strF f (s++[34])=.ok (t,n)→t=s∧U8 s∧n=s.length+1:=by
 intro f;induction f with
 | zero=>intro s t n _ h;simp[strF]at h
 | succ f ih=>
   intro s t n hs h;match s with
   | []=>
     simp[strF]at h;exact⟨h.1,.nil,by simp[h.2]⟩
   | c::r=>
     obtain⟨c1,c2⟩:=hs c (by simp);rw[List.cons_append,strF,if_neg c1]at h;split at h
     ·cases h
     ·try rw[if_neg c2]at h
      split at h
      ·cases h
      ·rename_i h32 hq
       rw[←List.cons_append]at h hq;have hlen:=(seqLen_take _ hq).2;have ht:=(seqLen_take _ hq).1;have hle:seqLen (c::r++[34])≤(c::r).length:=by
        by_cases hx:seqLen (c::r++[34])≤(c::r).length
        ·exact hx
        ·exfalso
         have hall:seqLen (c::r++[34])=(c::r++[34]).length:=by
          rw[List.length_append,List.length_singleton]at hlen ⊢;omega
         have hlast:(c::r++[34]).getLast?=some 34:=List.getLast?_concat;rcases seq_cases (c::r++[34]) (by simp) hall with⟨c',e,p⟩|⟨c',d,e,p⟩|⟨c',d,e',e,p⟩|⟨c',d,e',g,e,p⟩
         ·have:=congrArg List.length e;simp at this
         ·rw[e]at hlast;simp at hlast;rw[hlast]at p;simp at p
         ·rw[e]at hlast;simp at hlast;rw[hlast]at p;simp at p
         ·rw[e]at hlast;simp at hlast;rw[hlast]at p;simp at p
       generalize hq':seqLen (c::r++[34])=q at *;rw[List.take_append_of_le_length hle]at h ht;rw[List.drop_append_of_le_length hle]at h;cases hr:strF f ((c::r).drop q++[34])with
       | error o=>rw[hr]at h;simp[shiftS]at h
       | ok z=>
         obtain⟨t',n'⟩:=z;obtain⟨a1,a2,a3⟩:=ih _ _ _ (fun x hx=>hs x (List.mem_of_mem_drop hx)) hr;rw[hr,shiftS]at h;injection h with h;injection h with e1 e2;subst a1;subst e1;subst e2;refine⟨by rw[List.take_append_drop],?_,?_⟩
         ·have hlt:((c::r).take q).length=q:=by rw[List.length_take];omega
          have:=U8.cons ((c::r).take q) ((c::r).drop q) (by intro e;rw[e]at hlt;simp at hlt;omega) (by rw[ht,hlt]) a2;rwa [List.take_append_drop]at this
         ·rw[a3,List.length_drop];omega
theorem readL_wrong{s:List UInt8}(hs:∀c∈s,c≠34∧c≠92)(hu:¬U8 s)(hl:s.length+2≤65536):∃p,readL (34::s++[34])=.error (2,p):=by
 have hnb:nb (34::s++[34])=0:=by rw[List.cons_append,nb,if_neg (by decide)]
 have hq:∃o,quotL (34::s++[34])=.error o:=by
  unfold quotL;simp only[List.cons_append,if_true];cases hr:strL (s++[34])with
  | error o=>exact⟨o+1,rfl⟩
  | ok z=>
    obtain⟨t,n⟩:=z;exact absurd (strF_back _ _ _ _ hs hr).2.1 hu
 obtain⟨o,hq⟩:=hq;refine⟨0+o,?_⟩;unfold readL;rw[if_neg (by simp;omega)];dsimp only;rw[hnb,List.drop_zero,List.cons_append,valL_cons,if_pos rfl,←List.cons_append,hq]
theorem form_str(s:List UInt8):formN (flat 0 [] (.str s 0)) (flat 0 [] (.str s 0)).length 0=strT s:=by
 simp[flat,formN]
theorem sgnL_plain(c:UInt8)(h1:c≠34)(h2:32≤c.toNat)(h3:c≠92):sgnL c=[c]:=by
 have hne:∀d:UInt8,d.toNat<32→c≠d:=fun d hd e=>by rw[e]at h2;omega
 unfold sgnL;rw[if_neg (by rintro(e|e);exact h1 e;exact h3 e),if_neg (hne _ (by decide)),if_neg (hne _ (by decide)),if_neg (hne _ (by decide)),if_neg (hne _ (by decide)),if_neg (hne _ (by decide)),if_neg (by omega)]
theorem sgnL_six(c:UInt8):(sgnL c).length≤6:=by
 unfold sgnL;repeat' split
 all_goals simp
theorem sgnsL_seq(a:List UInt8)(h0:a≠[])(h:seqLen a=a.length)(hc:∀c r,a=c::r→c≠34∧32≤c.toNat∧c≠92):sgnsL a=a:=by
 rcases seq_cases a h0 h with⟨c,rfl,p⟩|⟨c,d,rfl,p⟩|⟨c,d,e,rfl,p⟩|⟨c,d,e,g,rfl,p⟩
 ·obtain⟨c1,c2,c3⟩:=hc c [] rfl
  rw[sgnsL_one,sgnL_plain c c1 c2 c3]
 ·simp[sgnsL,sgnL_high c (by omega),sgnL_high d (by omega)]
 ·simp[sgnsL,sgnL_high c (by omega),sgnL_high d (by omega),sgnL_high e (by omega)]
 ·simp[sgnsL,sgnL_high c (by omega),sgnL_high d (by omega),sgnL_high e (by omega),sgnL_high g (by omega)]
theorem sgns_high:∀l:List UInt8,(∀c∈l,128≤c.toNat)→sgnsL l=l
 | [],_=>rfl
 | c::r,h=>by rw[sgnsL,sgnL_high c (h c (by simp)),sgns_high r (fun x hx=>h x (by simp[hx]))];rfl
theorem wr8_sgns(n:Nat)(h:n<1114112):(sgnsL (wr8 n)).length≤6:=by
 unfold wr8;split
 ·rw[sgnsL_one];exact sgnL_six _
 ·split
  ·have h1:=ofNat_toNat (192+n/64) (by omega)
   have h2:=ofNat_toNat (128+n%64) (by omega);generalize UInt8.ofNat (192+n/64)=a at *;generalize UInt8.ofNat (128+n%64)=b at *;rw[sgns_high _ (by intro c hc;simp at hc;rcases hc with rfl|rfl<;>omega)];simp
  ·split
   ·have h1:=ofNat_toNat (224+n/4096) (by omega)
    have h2:=ofNat_toNat (128+n/64%64) (by omega);have h3:=ofNat_toNat (128+n%64) (by omega);generalize UInt8.ofNat (224+n/4096)=a at *;generalize UInt8.ofNat (128+n/64%64)=b at *;generalize UInt8.ofNat (128+n%64)=e at *;rw[sgns_high _ (by intro c hc;simp at hc;rcases hc with rfl|rfl|rfl<;>omega)];simp
   ·have h1:=ofNat_toNat (240+n/262144) (by omega)
    have h2:=ofNat_toNat (128+n/4096%64) (by omega);have h3:=ofNat_toNat (128+n/64%64) (by omega);have h4:=ofNat_toNat (128+n%64) (by omega);generalize UInt8.ofNat (240+n/262144)=a at *;generalize UInt8.ofNat (128+n/4096%64)=b at *;generalize UInt8.ofNat (128+n/64%64)=e at *;generalize UInt8.ofNat (128+n%64)=g at *;rw[sgns_high _ (by intro c hc;simp at hc;rcases hc with rfl|rfl|rfl|rfl<;>omega)];simp
theorem esc1_sgn(c b:UInt8)(h:esc1 c=some b):(sgnL b).length≤2:=by
 unfold esc1 at h;split at h
 ·rename_i hc
  injection h with h;subst h;rcases hc with rfl|rfl|rfl<;>decide
 ·repeat' split at h
  all_goals first|cases h;done|(injection h with h;subst h;decide)
theorem fourG_lt:∀(k n:Nat) (l:List UInt8) (o m o':Nat),fourG k n l o=(some m,o')→m<(n+1)*16^k
 | 0,n,l,o,m,o',h=>by rw[fourG]at h;injection h with h1 _;injection h1 with h1;subst h1;simp
 | k+1,n,[],o,m,o',h=>by rw[fourG]at h;injection h with h1 _;cases h1
 | k+1,n,c::r,o,m,o',h=>by
   rw[fourG]at h;cases hd:hexv c with
   | none=>rw[hd]at h;injection h with h1 _;cases h1
   | some d=>
     rw[hd]at h;have:=fourG_lt k _ r _ m o' h;have hl:=hexv_lt hd;have:(16*n+d+1)*16^k≤(16*n+16)*16^k:=Nat.mul_le_mul_right _ (by omega);have e:(n+1)*16^(k+1)=(16*n+16)*16^k:=by rw[Nat.pow_succ,show 16*n+16=(n+1)*16 by omega,Nat.mul_assoc,Nat.mul_comm 16 (16^k)]
     omega
theorem escL_sgns{l t:List UInt8}{n:Nat}(h:escL l=.ok (t,n)):(sgnsL t).length≤n:=by
 unfold escL at h;split at h
 ·rename_i c r
  split at h
  ·rename_i b hb
   injection h with h;injection h with h1 h2;subst h1;subst h2;rw[sgnsL_one];exact esc1_sgn _ _ hb
  ·split at h
   ·split at h
    ·cases h
    ·rename_i m x h4
     have hm:=fourG_lt _ _ _ _ _ _ h4;unfold pairL at h;split at h
     ·injection h with h;injection h with h1 h2;subst h1;subst h2
      exact wr8_sgns m (by omega)
     ·split at h
      ·cases h
      ·rename_i lo hlo
       split at h
       ·cases h
       ·injection h with h;injection h with h1 h2;subst h1;subst h2
        have hl:lo≤57343:=by
         unfold lowL at hlo;split at hlo
         ·split at hlo
          ·split at hlo
           ·split at hlo
            ·injection hlo with hlo;omega
            ·cases hlo
           ·cases hlo
          ·cases hlo
         ·cases hlo
        have:=wr8_sgns (65536+1024*(m-55296)+(lo-56320)) (by omega);omega
   ·cases h
 ·cases h
theorem strF_sgn:∀(f:Nat) (l t:List UInt8) (n:Nat),strF f l=.ok (t,n)→(sgnsL t).length+1≤n:=by
 intro f;induction f with
 | zero=>intro l t n h;simp[strF]at h
 | succ f ih=>
   intro l t n h;match l with
   | []=>simp[strF]at h
   | c::r=>
     rw[strF]at h;split at h
     ·injection h with h;injection h with h1 h2;subst h1;subst h2;simp[sgnsL]
     ·rename_i c1
      split at h
      ·cases h
      ·rename_i c2
       split at h
       ·split at h
        ·cases h
        ·rename_i t1 n1 he
         have hs:=escL_sgns he;cases hr:strF f ((c::r).drop n1)with
         | error o=>rw[hr]at h;simp[shiftS]at h
         | ok z=>
           obtain⟨t2,n2⟩:=z;have h9:=ih _ _ _ hr;rw[hr,shiftS]at h;injection h with h;injection h with h1 h2;subst h1;subst h2;rw[sgnsL_append,List.length_append];omega
       ·rename_i c3
        split at h
        ·cases h
        ·rename_i hq
         cases hr:strF f ((c::r).drop (seqLen (c::r)))with
         | error o=>rw[hr]at h;simp[shiftS]at h
         | ok z=>
           obtain⟨t2,n2⟩:=z;have h9:=ih _ _ _ hr;rw[hr,shiftS]at h;injection h with h;injection h with h1 h2;subst h1;subst h2;obtain⟨q1,q2⟩:=seqLen_take _ hq;have hlen:((c::r).take (seqLen (c::r))).length=seqLen (c::r):=by rw[List.length_take];omega
           have hne:(c::r).take (seqLen (c::r))≠[]:=fun e=>by rw[e]at hlen;simp at hlen;omega
           have e:=sgnsL_seq _ hne (by rw[q1,hlen]) (fun c' r' he=>by
            have:c'=c:=by
             have h8:=congrArg List.head? he;rw[List.head?_take,if_neg hq]at h8;simp at h8;exact h8.symm
            subst this;exact⟨c1,by omega,c3⟩)
           rw[sgnsL_append,List.length_append,e,hlen];omega
theorem quotL_sgn{l t:List UInt8}{n:Nat}(h:quotL l=.ok (t,n)):(strT t).length≤n:=by
 unfold quotL at h;split at h
 ·split at h
  ·split at h
   ·rename_i t' n' hs
    injection h with h;injection h with h1 h2;subst h1;subst h2;have:=strF_sgn _ _ _ _ hs;unfold strT;simp only[List.length_append,List.length_cons,List.length_nil];omega
   ·cases h
  ·cases h
 ·cases h
theorem decN_lenQ:∀(k x:Nat),1≤k→x<10^k→(decN x).length≤k
 | 0,x,h,_=>by omega
 | 1,x,_,h=>by rw[decN];simp at h;rw[dif_pos h];simp
 | k+2,x,_,h=>by
   rw[decN];split
   ·simp
   ·have:x/10<10^(k+1):=by
     rw[Nat.div_lt_iff_lt_mul (by omega)];rwa [Nat.pow_succ]at h
    have:=decN_lenQ (k+1) (x/10) (by omega) this;simp;omega
theorem accN_lt:∀(l:List UInt8) (n:Nat),(∀c∈l,isD c=true)→accN n l<(n+1)*10^l.length
 | [],n,_=>by simp[accN]
 | c::r,n,h=>by
   have hc:=h c (by simp);unfold isD at hc;simp at hc;rw[accN];have h9:=accN_lt r (if n≤maxI then 10*n+(c.toNat-48)else n) (fun x hx=>h x (by simp[hx]));have:(if n≤maxI then 10*n+(c.toNat-48)else n)+1≤10*(n+1):=by split<;>omega
   have h8:=Nat.mul_le_mul_right (10^r.length) this;have e:(n+1)*10^(c::r).length=10*(n+1)*10^r.length:=by rw[List.length_cons,Nat.pow_succ,Nat.mul_comm 10 (n+1),Nat.mul_assoc,Nat.mul_comm 10]
   omega
theorem nd_dig:∀l:List UInt8,∀c∈l.take (nd l),isD c=true
 | [],c,h=>by simp at h
 | x::r,c,h=>by
   rw[nd]at h;split at h
   ·rename_i hx
    rw[List.take_succ_cons]at h;rcases List.mem_cons.1 h with rfl|h
    ·exact hx
    ·exact nd_dig r c h
   ·simp at h
theorem nd_leQ:∀l:List UInt8,nd l≤l.length
 | []=>by simp[nd]
 | x::r=>by rw[nd];split<;>have:=nd_leQ r<;>simp<;>omega
theorem intL_sgn{l:List UInt8}{m:Int}{n:Nat}(h:intL l=.ok (m,n)):(decI m).length≤n∧ -9007199254740991≤m∧m≤9007199254740991:=by
 unfold intL at h;dsimp only at h;generalize (if l.head?=some 45 then 1 else 0)=m0 at h;split at h
 ·cases h
 ·rename_i hk
  split at h
  ·cases h
  ·rename_i hx
   injection h with h;injection h with h1 h2;generalize hr:l.drop m0=r at *;have hlt:=accN_lt (r.take (nd r)) 0 (nd_dig r);have hl:=decN_lenQ (nd r) (accN 0 (r.take (nd r))) (by omega) (by
    have:(r.take (nd r)).length=nd r:=by rw[List.length_take];have:=nd_leQ r;omega
    rw[this]at hlt;omega)
   have hM:accN 0 (r.take (nd r))≤9007199254740991:=by
    have:maxI=9007199254740991:=rfl;omega
   generalize accN 0 (r.take (nd r))=x at *;have h0:(decN 0).length=1:=by rw[decN];simp
   split at h1
   ·rename_i hm
    subst h1;rw[hm]at h2;refine⟨?_,by omega,by omega⟩;unfold decI;split
    ·have:(- -(x:Int)).toNat=x:=by omega
     rw[this,List.length_cons];omega
    ·have:(-(x:Int)).toNat=0:=by omega
     rw[this,h0];omega
   ·subst h1
    refine⟨?_,by omega,by omega⟩;unfold decI;rw[if_neg (by omega)];have:((x:Int)).toNat=x:=by omega
    rw[this];omega
mutual
def okI:JT→Prop
 | .null _=>True
 | .truth _ _=>True
 | .int n _=> -9007199254740991≤n∧n≤9007199254740991
 | .str s _=>U8 s
 | .arr ts _=>okIL ts
 | .obj ms _=>okIM ms
def okIL:List JT→Prop
 | []=>True
 | t::r=>okI t∧okIL r
def okIM:List (List UInt8×JT)→Prop
 | []=>True
 | (_,t)::r=>okI t∧okIM r
end
mutual
def dpT:JT→Nat→Prop
 | .null _,_=>True
 | .truth _ _,_=>True
 | .int _ _,_=>True
 | .str _ _,_=>True
 | .arr ts _,d=>1≤d∧dpL ts (d-1)
 | .obj ms _,d=>1≤d∧dpM ms (d-1)
def dpL:List JT→Nat→Prop
 | [],_=>True
 | t::r,d=>dpT t d∧dpL r d
def dpM:List (List UInt8×JT)→Nat→Prop
 | [],_=>True
 | (_,t)::r,d=>dpT t d∧dpM r d
end
theorem joinC_len:∀l:List (List UInt8),l≠[]→(joinC l).length+1=(l.map fun a=>a.length+1).sum
 | [],h=>absurd rfl h
 | [a],_=>by simp[joinC]
 | a::b::r,_=>by
   have:=joinC_len (b::r) (by simp);simp only[joinC,List.length_append,List.length_cons,List.map_cons,List.sum_cons]at this ⊢;omega
theorem insP_perm(x:List UInt8×List UInt8)(l:List (List UInt8×List UInt8)):(insP x l).Perm (x::l):=by
 induction l with
 | nil=>exact .refl _
 | cons y r ih=>
   simp only[insP];split
   ·exact(List.Perm.cons y ih).trans (.swap x y r)
   ·exact .refl _
theorem srtP_perm(l:List (List UInt8×List UInt8)):(srtP l).Perm l:=by
 have h:∀(l acc:List (List UInt8×List UInt8)),(l.foldl (fun a x=>(insP x a.reverse).reverse) acc).Perm (l++acc):=by
  intro l;induction l with
  | nil=>intro acc;exact .refl _
  | cons x r ih=>
    intro acc;rw[List.foldl_cons];refine(ih _).trans ?_;refine(List.Perm.append_left r ((List.reverse_perm _).trans ((insP_perm x _).trans (List.Perm.cons x (List.reverse_perm acc))))).trans ?_;exact List.perm_middle
 have:=h l [];rwa [List.append_nil]at this
theorem perm_sum{a b:List Nat}(h:a.Perm b):a.sum=b.sum:=by
 induction h with
 | nil=>rfl
 | cons x _ ih=>simp[ih]
 | swap x y l=>simp;omega
 | trans _ _ i1 i2=>rw[i1,i2]
theorem joinC_srt(l:List (List UInt8×List UInt8)):(joinC ((srtP l).map memP)).length=(joinC (l.map memP)).length:=by
 by_cases h0:l=[]
 ·subst h0;rfl
 ·have hp:=srtP_perm l
  have h1:srtP l≠[]:=fun e=>by rw[e]at hp;exact h0 hp.symm.eq_nil
  have a:=joinC_len (l.map memP) (by simpa using h0);have b:=joinC_len ((srtP l).map memP) (by simpa using h1);have c:=perm_sum ((hp.map memP).map fun a=>a.length+1);omega
def Fit(d:Nat)(t:JT)(n:Nat):Prop:=(fmT t).length≤n∧okI t∧dpT t d
theorem arrF_fit(d:Nat)(v:List UInt8→Nat→JR JT)(hv:∀l i t n,v l i=.ok (t,n)→Fit d t n):∀(f:Nat) (l:List UInt8) (i:Nat) (ts:List JT) (k:Nat),arrF v f l i=.ok (ts,k)→(joinC (fmL ts)).length+1≤k∧ts≠[]∧okIL ts∧dpL ts d:=by
 intro f;induction f with
 | zero=>intro l i ts k h;simp[arrF]at h
 | succ f ih=>
   intro l i ts k h;rw[arrF]at h;dsimp only at h;split at h
   ·cases h
   ·rename_i t n hvt
    obtain⟨h0,h1,h2⟩:=hv _ _ _ _ hvt;split at h
    ·split at h
     ·split at h
      ·cases h
      ·rename_i ts' k' hr
       obtain⟨g0,g1,g2,g3⟩:=ih _ _ _ _ hr;injection h with h;injection h with e1 e2;subst e1;subst e2;refine⟨?_,by simp,by rw[okIL];exact⟨h1,g2⟩,by rw[dpL];exact⟨h2,g3⟩⟩;match ts',g1 with
       | t2::r2,_=>simp only[fmL,joinC,List.length_append,List.length_cons]at g0 ⊢;omega
     ·split at h
      ·injection h with h;injection h with e1 e2;subst e1;subst e2
       refine⟨by simp only[fmL,joinC];omega,by simp,by simp only[okIL];exact⟨h1,trivial⟩,by simp only[dpL];exact⟨h2,trivial⟩⟩
      ·cases h
    ·cases h
theorem objF_fit(d:Nat)(v:List UInt8→Nat→JR JT)(hv:∀l i t n,v l i=.ok (t,n)→Fit d t n):∀(f:Nat) (ks:List (List UInt8)) (l:List UInt8) (i:Nat) (ms:List (List UInt8×JT)) (k:Nat),objF v f ks l i=.ok (ms,k)→(joinC ((fmM ms).map memP)).length+1≤k∧ms≠[]∧okIM ms∧dpM ms d:=by
 intro f;induction f with
 | zero=>intro ks l i ts k h;simp[objF]at h
 | succ f ih=>
   intro ks l i ms k h;rw[objF]at h;dsimp only at h;split at h
   ·cases h
   ·rename_i name m hq
    have hn:=quotL_sgn hq;split at h
    ·cases h
    ·split at h
     ·split at h
      ·split at h
       ·cases h
       ·rename_i t n hvt
        obtain⟨h0,h1,h2⟩:=hv _ _ _ _ hvt;split at h
        ·split at h
         ·split at h
          ·cases h
          ·rename_i ms' k' hr
           obtain⟨g0,g1,g2,g3⟩:=ih _ _ _ _ _ hr;injection h with h;injection h with e1 e2;subst e1;subst e2;refine⟨?_,by simp,by rw[okIM];exact⟨h1,g2⟩,by rw[dpM];exact⟨h2,g3⟩⟩;match ms',g1 with
           | (n2,t2)::r2,_=>simp only[fmM,List.map_cons,joinC,memP,List.length_append,List.length_cons]at g0 ⊢;omega
         ·split at h
          ·injection h with h;injection h with e1 e2;subst e1;subst e2
           refine⟨by simp only[fmM,List.map_cons,List.map_nil,joinC,memP,List.length_append,List.length_cons];omega,by simp,by simp only[okIM];exact⟨h1,trivial⟩,by simp only[dpM];exact⟨h2,trivial⟩⟩
          ·cases h
        ·cases h
      ·cases h
     ·cases h
theorem arrL_fit(d:Nat)(v:List UInt8→Nat→JR JT)(hv:∀l i t n,v l i=.ok (t,n)→Fit d t n)(l:List UInt8)(i:Nat)(t:JT)(n:Nat)(h:arrL v l i=.ok (t,n)):Fit (d+1) t n:=by
 unfold arrL at h;dsimp only at h;split at h
 ·injection h with h;injection h with h1 h2;subst h1;subst h2
  exact⟨by simp only[fmT,fmL,joinC,List.length_append,List.length_cons,List.length_nil];omega,by simp[okI,okIL],by simp[dpT,dpL]⟩
 ·split at h
  ·cases h
  ·rename_i ts k hr
   obtain⟨g0,g1,g2,g3⟩:=arrF_fit d v hv _ _ _ _ _ hr;injection h with h;injection h with h1 h2;subst h1;subst h2;exact⟨by simp only[fmT,List.length_append,List.length_cons,List.length_nil];omega,by rw[okI];exact g2,by rw[dpT];exact⟨by omega,g3⟩⟩
theorem objL_fit(d:Nat)(v:List UInt8→Nat→JR JT)(hv:∀l i t n,v l i=.ok (t,n)→Fit d t n)(l:List UInt8)(i:Nat)(t:JT)(n:Nat)(h:objL v l i=.ok (t,n)):Fit (d+1) t n:=by
 unfold objL at h;dsimp only at h;split at h
 ·injection h with h;injection h with h1 h2;subst h1;subst h2
  exact⟨by simp only[fmT,fmM,srtP,List.foldl_nil,List.map_nil,joinC,List.length_append,List.length_cons,List.length_nil];omega,by simp[okI,okIM],by simp[dpT,dpM]⟩
 ·split at h
  ·cases h
  ·rename_i ms k hr
   obtain⟨g0,g1,g2,g3⟩:=objF_fit d v hv _ _ _ _ _ _ hr;injection h with h;injection h with h1 h2;subst h1;subst h2;exact⟨by simp only[fmT,List.length_append,List.length_cons,List.length_nil,joinC_srt];omega,by rw[okI];exact g2,by rw[dpT];exact⟨by omega,g3⟩⟩
theorem wordL_fit{l:List UInt8}{i n d:Nat}{t:JT}(h:wordL l i=.ok (t,n)):Fit d t n:=by
 unfold wordL at h;dsimp only at h;repeat' split at h
 all_goals first
  | cases h;done
  | (injection h with h;injection h with h1 h2;subst h1;subst h2;exact⟨by simp[fmT],by simp[okI],by simp[dpT]⟩)
theorem valL_fit:∀(d:Nat) (l:List UInt8) (i:Nat) (t:JT) (n:Nat),valL d l i=.ok (t,n)→Fit d t n:=by
 intro d;induction d with
 | zero=>
   intro l i t n h;match l with
   | []=>rw[valL_nil]at h;cases h
   | c::r=>
     rw[valL_cons]at h;generalize (c::r)=L at *;split at h
     ·split at h
      ·cases h
      ·rename_i hq;injection h with h;injection h with h1 h2;subst h1;subst h2;exact⟨by rw[fmT];exact quotL_sgn hq,by rw[okI];exact quotL_u8 hq,by simp[dpT]⟩
     ·split at h
      ·split at h
       ·cases h
       ·rename_i hq;have:=intL_sgn hq;injection h with h;injection h with h1 h2;subst h1;subst h2;exact⟨by rw[fmT];exact this.1,by rw[okI];exact this.2,by simp[dpT]⟩
      ·split at h
       ·exact wordL_fit h
       ·split at h<;>cases h
 | succ d ih=>
   intro l i t n h;match l with
   | []=>rw[valL_nil]at h;cases h
   | c::r=>
     rw[valL_cons]at h;generalize (c::r)=L at *;split at h
     ·split at h
      ·cases h
      ·rename_i hq;injection h with h;injection h with h1 h2;subst h1;subst h2;exact⟨by rw[fmT];exact quotL_sgn hq,by rw[okI];exact quotL_u8 hq,by simp[dpT]⟩
     ·split at h
      ·split at h
       ·cases h
       ·rename_i hq;have:=intL_sgn hq;injection h with h;injection h with h1 h2;subst h1;subst h2;exact⟨by rw[fmT];exact this.1,by rw[okI];exact this.2,by simp[dpT]⟩
      ·split at h
       ·exact wordL_fit h
       ·split at h
        ·dsimp only at h
         split at h
         ·exact arrL_fit d _ ih _ _ _ _ h
         ·exact objL_fit d _ ih _ _ _ _ h
        ·cases h
theorem readL_fit{l:List UInt8}{t:JT}(h:readL l=.ok t):(fmT t).length≤l.length∧okI t∧dpT t 32∧l.length≤65536:=by
 unfold readL at h;split at h
 ·cases h
 ·rename_i hl
  dsimp only at h;split at h
  ·cases h
  ·rename_i t' n hv
   obtain⟨h1,h2,h3⟩:=valL_fit _ _ _ _ _ hv;have h0:=(valL_rok _ _ _ _ _ hv).1;rw[List.length_drop]at h0;split at h
   ·cases h
   ·injection h with h;subst h
    exact⟨by omega,h2,h3,by omega⟩
def insM(x:List UInt8×JT):List (List UInt8×JT)→List (List UInt8×JT)
 | []=>[x]
 | y::r=>if aheadL x.1 y.1=true then y::insM x r else x::y::r
def srtM(l:List (List UInt8×JT)):List (List UInt8×JT):=l.foldl (fun a x=>(insM x a.reverse).reverse) []
theorem fmM_map:∀ms:List (List UInt8×JT),fmM ms=ms.map fun p=>(p.1,fmT p.2)
 | []=>rfl
 | (n,t)::r=>by rw[fmM,fmM_map r];rfl
theorem fmL_map:∀ts:List JT,fmL ts=ts.map fmT
 | []=>rfl
 | t::r=>by rw[fmL,fmL_map r];rfl
theorem insM_fm(x:List UInt8×JT):∀l,(insM x l).map (fun p=>(p.1,fmT p.2))=insP (x.1,fmT x.2) (l.map fun p=>(p.1,fmT p.2))
 | []=>rfl
 | y::r=>by
   simp only[insM,List.map_cons,insP];split
   ·rw[List.map_cons,insM_fm x r]
   ·rfl
theorem srtM_fm(ms:List (List UInt8×JT)):srtP (fmM ms)=fmM (srtM ms):=by
 rw[fmM_map,fmM_map];have h:∀(l acc:List (List UInt8×JT)),(l.map fun p=>(p.1,fmT p.2)).foldl (fun a x=>(insP x a.reverse).reverse) (acc.map fun p=>(p.1,fmT p.2))=(l.foldl (fun a x=>(insM x a.reverse).reverse) acc).map fun p=>(p.1,fmT p.2):=by
  intro l;induction l with
  | nil=>intro acc;rfl
  | cons x r ih=>
    intro acc;rw[List.foldl_cons,←ih,List.map_cons,List.foldl_cons];congr 1
    rw[←List.map_reverse,←insM_fm,List.map_reverse]
 exact h ms []
theorem insM_perm(x:List UInt8×JT)(l:List (List UInt8×JT)):(insM x l).Perm (x::l):=by
 induction l with
 | nil=>exact .refl _
 | cons y r ih=>
   simp only[insM];split
   ·exact(List.Perm.cons y ih).trans (.swap x y r)
   ·exact .refl _
theorem foldM_perm(l:List (List UInt8×JT)):∀acc:List (List UInt8×JT),(l.foldl (fun a x=>(insM x a.reverse).reverse) acc).Perm (l++acc):=by
 induction l with
 | nil=>intro acc;exact .refl _
 | cons x r ih=>
   intro acc;rw[List.foldl_cons];refine(ih _).trans ?_;refine(List.Perm.append_left r ((List.reverse_perm _).trans ((insM_perm x _).trans (List.Perm.cons x (List.reverse_perm acc))))).trans ?_;exact List.perm_middle
theorem srtM_perm(l:List (List UInt8×JT)):(srtM l).Perm l:=by
 have:=foldM_perm l [];rwa [List.append_nil]at this
theorem insM_desc(x:List UInt8×JT)(l:List (List UInt8×JT))(hd:∀y∈l,aheadL x.1 y.1=false→aheadL y.1 x.1=true)(h:l.Pairwise (fun a b=>aheadL b.1 a.1=true)):(insM x l).Pairwise (fun a b=>aheadL b.1 a.1=true):=by
 induction l with
 | nil=>simp[insM]
 | cons y r ih=>
   rw[List.pairwise_cons]at h;simp only[insM];split
   ·rename_i hlt
    rw[List.pairwise_cons];refine⟨fun b hb=>?_,ih (fun z hz=>hd z (List.mem_cons_of_mem _ hz)) h.2⟩;rcases List.mem_cons.1 ((insM_perm x r).mem_iff.1 hb)with rfl|hb
    ·exact hlt
    ·exact h.1 b hb
   ·rename_i hlt
    have hyx:=hd y (by simp) (by simpa using hlt);rw[List.pairwise_cons,List.pairwise_cons];refine⟨fun b hb=>?_,h.1,h.2⟩;rcases List.mem_cons.1 hb with rfl|hb
    ·exact hyx
    ·exact aheadU_trans _ _ _ (h.1 b hb) hyx
theorem foldM_sorted(l:List (List UInt8×JT)):∀acc:List (List UInt8×JT),(l++acc).Pairwise (fun a b=>aheadL a.1 b.1=true∨aheadL b.1 a.1=true)→acc.Pairwise (fun a b=>aheadL a.1 b.1=true)→(l.foldl (fun a x=>(insM x a.reverse).reverse) acc).Pairwise (fun a b=>aheadL a.1 b.1=true):=by
 induction l with
 | nil=>intro acc _ h;exact h
 | cons x r ih=>
   intro acc hd h;rw[List.foldl_cons];rw[List.cons_append,List.pairwise_cons]at hd;refine ih _ ?_ ?_
   ·refine List.Pairwise.perm (l:=x::(r++acc)) ?_ ?_ (fun {a b} h=>h.symm)
    ·rw[List.pairwise_cons];exact hd
    ·exact(List.perm_middle.symm).trans (List.Perm.append_left r ((List.reverse_perm _).trans ((insM_perm x _).trans (List.Perm.cons x (List.reverse_perm acc)))).symm)
   ·rw[List.pairwise_reverse]
    refine insM_desc x _ (fun y hy hf=>?_) ?_
    ·rcases hd.1 y (by simp at hy;simp[hy])with e|e
     ·rw[e]at hf;cases hf
     ·exact e
    ·rw[List.pairwise_reverse];exact h
theorem okNM_mem:∀(ms:List (List UInt8×JT)),okNM ms→∀p∈ms,U8 p.1∧okN p.2
 | [],_,p,h=>by simp at h
 | (k,t)::r,ho,p,h=>by
   rw[okNM]at ho;rcases List.mem_cons.1 h with rfl|h
   ·exact⟨ho.1,ho.2.1⟩
   ·exact okNM_mem r ho.2.2 p h
theorem okIM_mem:∀(ms:List (List UInt8×JT)),okIM ms→∀p∈ms,okI p.2
 | [],_,p,h=>by simp at h
 | (k,t)::r,ho,p,h=>by
   rw[okIM]at ho;rcases List.mem_cons.1 h with rfl|h
   ·exact ho.1
   ·exact okIM_mem r ho.2 p h
theorem dpM_mem(d:Nat):∀(ms:List (List UInt8×JT)),dpM ms d→∀p∈ms,dpT p.2 d
 | [],_,p,h=>by simp at h
 | (k,t)::r,ho,p,h=>by
   rw[dpM]at ho;rcases List.mem_cons.1 h with rfl|h
   ·exact ho.1
   ·exact dpM_mem d r ho.2 p h
theorem okNL_mem:∀(ts:List JT),okNL ts→∀p∈ts,okN p
 | [],_,p,h=>by simp at h
 | t::r,ho,p,h=>by
   rw[okNL]at ho;rcases List.mem_cons.1 h with rfl|h
   ·exact ho.1
   ·exact okNL_mem r ho.2 p h
theorem okIL_mem:∀(ts:List JT),okIL ts→∀p∈ts,okI p
 | [],_,p,h=>by simp at h
 | t::r,ho,p,h=>by
   rw[okIL]at ho;rcases List.mem_cons.1 h with rfl|h
   ·exact ho.1
   ·exact okIL_mem r ho.2 p h
theorem dpL_mem(d:Nat):∀(ts:List JT),dpL ts d→∀p∈ts,dpT p d
 | [],_,p,h=>by simp at h
 | t::r,ho,p,h=>by
   rw[dpL]at ho;rcases List.mem_cons.1 h with rfl|h
   ·exact ho.1
   ·exact dpL_mem d r ho.2 p h
theorem sizeL_mem:∀(ts:List JT),∀p∈ts,p.size≤sizeL ts
 | [],p,h=>by simp at h
 | t::r,p,h=>by
   rw[sizeL];rcases List.mem_cons.1 h with rfl|h
   ·omega
   ·have:=sizeL_mem r p h;omega
theorem sizeM_mem:∀(ms:List (List UInt8×JT)),∀p∈ms,p.2.size≤sizeM ms
 | [],p,h=>by simp at h
 | (k,t)::r,p,h=>by
   rw[sizeM];rcases List.mem_cons.1 h with rfl|h
   ·show t.size≤_;omega
   ·have:=sizeM_mem r p h;omega
theorem sizeM_sum:∀(ms:List (List UInt8×JT)),sizeM ms=(ms.map fun p=>p.2.size).sum
 | []=>rfl
 | (k,t)::r=>by rw[sizeM,sizeM_sum r];simp
theorem srtM_size(ms:List (List UInt8×JT)):sizeM (srtM ms)=sizeM ms:=by
 rw[sizeM_sum,sizeM_sum];exact perm_sum ((srtM_perm ms).map _)
theorem srtM_sorted(ms:List (List UInt8×JT))(ho:okNM ms)(hd:(ms.map Prod.fst).Pairwise (fun a b=>a≠b)):(srtM ms).Pairwise (fun a b=>aheadL a.1 b.1=true):=by
 refine foldM_sorted ms [] ?_ .nil;rw[List.append_nil];rw[List.pairwise_map]at hd;have hu:=okNM_mem ms ho;clear ho;induction ms with
 | nil=>exact .nil
 | cons x r ih=>
   rw[List.pairwise_cons]at hd ⊢;refine⟨fun b hb=>?_,ih hd.2 (fun p hp=>hu p (List.mem_cons_of_mem _ hp))⟩;have hne:unitsL x.1≠unitsL b.1:=fun e=>hd.1 b hb (units_inj (hu x (by simp)).1 (hu b (List.mem_cons_of_mem _ hb)).1 e)
   by_cases h1:aheadL x.1 b.1=true
   ·exact .inl h1
   ·exact .inr (aheadU_tot _ _ hne (Bool.not_eq_true _▸h1))
theorem srtP_same(l:List (List UInt8×List UInt8))(h:l.Pairwise (fun a b=>aheadL a.1 b.1=true)):srtP l=l:=by
 have h1:∀(l acc:List (List UInt8×List UInt8)),(acc++l).Pairwise (fun a b=>aheadL a.1 b.1=true)→l.foldl (fun a x=>(insP x a.reverse).reverse) acc=acc++l:=by
  intro l;induction l with
  | nil=>intro acc _;simp
  | cons x r ih=>
    intro acc hp;rw[List.foldl_cons];have e:(insP x acc.reverse).reverse=acc++[x]:=by
     rcases List.eq_nil_or_concat acc with rfl|⟨a',y,rfl⟩
     ·rfl
     ·rw[List.concat_eq_append,List.reverse_append]
      simp only[List.reverse_cons,List.reverse_nil,List.nil_append,List.cons_append];have hyx:aheadL y.1 x.1=true:=by
       rw[List.pairwise_append]at hp;exact hp.2.2 y (by simp) x (by simp)
      have:aheadL x.1 y.1=false:=aheadU_asym _ _ hyx;rw[insP,if_neg (by simp[this])];simp
    rw[e,ih (acc++[x]) (by rw[List.append_assoc];exact hp),List.append_assoc];rfl
 exact h1 l [] h
inductive All2 {α β:Type} (R:α→β→Prop):List α→List β→Prop
 | nil:All2 R [] []
 | cons {a b l m}:R a b→All2 R l m→All2 R (a::l) (b::m)
theorem All2.length{α β:Type}{R:α→β→Prop}{l:List α}{m:List β}(h:All2 R l m):m.length=l.length:=by
 induction h with
 | nil=>rfl
 | cons _ _ ih=>simp[ih]
theorem All2.mem{α β:Type}{R:α→β→Prop}{l:List α}{m:List β}(h:All2 R l m):∀a∈l,∃b∈m,R a b:=by
 induction h with
 | nil=>intro a ha;simp at ha
 | cons hr _ ih=>
   intro a ha;rcases List.mem_cons.1 ha with rfl|ha
   ·exact⟨_,by simp,hr⟩
   ·obtain⟨b,hb,hr⟩:=ih a ha
    exact⟨b,by simp[hb],hr⟩
mutual
def Al:JT→JT→Prop
 | .null _,u=>∃a,u=.null a
 | .truth b _,u=>∃a,u=.truth b a
 | .int n _,u=>∃a,u=.int n a
 | .str s _,u=>∃a,u=.str s a
 | .arr ts _,u=>∃us a,u=.arr us a∧AlL ts us
 | .obj ms _,u=>∃us a,u=.obj us a∧us.length=ms.length∧(us.map Prod.fst).Pairwise (fun a b=>a≠b)∧AlM ms us
def AlL:List JT→List JT→Prop
 | [],us=>us=[]
 | t::r,us=>∃u v,us=u::v∧Al t u∧AlL r v
def AlM:List (List UInt8×JT)→List (List UInt8×JT)→Prop
 | [],_=>True
 | (n,t)::r,us=>(∃u,(n,u)∈us∧Al t u)∧AlM r us
end
theorem AlL_of:∀{ts us:List JT},All2 Al ts us→AlL ts us
 | _,_,.nil=>by rw[AlL]
 | _,_,.cons h r=>by rw[AlL];exact⟨_,_,rfl,h,AlL_of r⟩
theorem AlM_of:∀(ms us:List (List UInt8×JT)),(∀p∈ms,∃u,(p.1,u)∈us∧Al p.2 u)→AlM ms us
 | [],us,_=>by rw[AlM];trivial
 | (n,t)::r,us,h=>by rw[AlM];exact⟨h (n,t) (by simp),AlM_of r us (fun p hp=>h p (by simp[hp]))⟩
theorem fmT_head(t:JT):∃c r,fmT t=c::r∧isB c=false∧c≠93:=by
 cases t with
 | null a=>exact⟨110,_,rfl,by decide,by decide⟩
 | truth b a=>cases b<;>exact⟨_,_,rfl,by decide,by decide⟩
 | int n a=>
   obtain⟨x,_,⟨_,e,_⟩|⟨_,e⟩⟩:=decI_abs n
   ·exact⟨45,_,by rw[fmT,e],by decide,by decide⟩
   ·obtain⟨c,r,hc,hd,_⟩:=decN_head x
    refine⟨c,r,by rw[fmT,e,hc],?_,?_⟩
    ·unfold isD at hd;unfold isB;simp at hd ⊢
     refine⟨⟨⟨?_,?_⟩,?_⟩,?_⟩<;>(rintro rfl;simp at hd)
    ·rintro rfl;simp[isD]at hd
 | str s a=>exact⟨34,_,rfl,by decide,by decide⟩
 | arr ts a=>exact⟨91,_,rfl,by decide,by decide⟩
 | obj ms a=>exact⟨123,_,rfl,by decide,by decide⟩
theorem fmT_nb(t:JT)(x:List UInt8):nb (fmT t++x)=0:=by
 obtain⟨c,r,e,h,_⟩:=fmT_head t;rw[e,List.cons_append,nb,if_neg (by simp[h])]
def Bk(t u:JT):Prop:=Al t u∧fmT u=fmT t∧u.size=t.size
def Rd(v:List UInt8→Nat→JR JT)(t:JT):Prop:=∀x,Beh x→∀i,∃u,v (fmT t++x) i=.ok (u,(fmT t).length)∧Bk t u
theorem beh_of(c:UInt8)(r:List UInt8)(h:isD c=false∧isL c=false):Beh (c::r):=fun c' r' e=>by injection e with e _;subst e;exact h
theorem nb_of(c:UInt8)(r:List UInt8)(h:isB c=false):nb (c::r)=0:=by rw[nb,if_neg (by simp[h])]
theorem arrF_back(v:List UInt8→Nat→JR JT):∀(ts:List JT),ts≠[]→(∀t∈ts,Rd v t)→∀(f:Nat),ts.length≤f→∀(i:Nat) (x:List UInt8),∃us,arrF v f (joinC (fmL ts)++93::x) i=.ok (us,(joinC (fmL ts)).length+1)∧All2 Bk ts us
 | [],h,_,_,_,_,_=>absurd rfl h
 | [t],_,hv,f,hf,i,x=>by
   obtain⟨f,rfl⟩:∃g,f=g+1:=⟨f-1,by simp at hf;omega⟩;obtain⟨u,h1,h2⟩:=hv t (by simp) (93::x) (beh_of _ _ (by decide)) i;refine⟨[u],?_,.cons h2 .nil⟩;simp only[fmL,joinC];rw[arrF];dsimp only;rw[fmT_nb,List.drop_zero,Nat.add_zero,h1];dsimp only;rw[Nat.zero_add,List.drop_left' rfl,nb_of _ _ (by decide),Nat.add_zero,List.drop_left' rfl];rfl
 | t::t2::r,_,hv,f,hf,i,x=>by
   obtain⟨f,rfl⟩:∃g,f=g+1:=⟨f-1,by simp at hf;omega⟩;have e:joinC (fmL (t::t2::r))++93::x=fmT t++44::(joinC (fmL (t2::r))++93::x):=by simp[fmL,joinC]
   obtain⟨u,h1,h2⟩:=hv t (by simp) (44::(joinC (fmL (t2::r))++93::x)) (beh_of _ _ (by decide)) i;obtain⟨us,h3,h4⟩:=arrF_back v (t2::r) (by simp) (fun t' ht=>hv t' (by simp at ht ⊢;exact .inr ht)) f (by simp at hf ⊢;omega) (i+((fmT t).length+1)) x;refine⟨u::us,?_,.cons h2 h4⟩;rw[e,arrF];dsimp only;rw[fmT_nb,List.drop_zero,Nat.add_zero,h1];dsimp only;rw[Nat.zero_add,List.drop_left' rfl,nb_of _ _ (by decide),Nat.add_zero,List.drop_left' rfl];dsimp only;rw[if_pos rfl];have hd:(fmT t++44::(joinC (fmL (t2::r))++93::x)).drop ((fmT t).length+1)=joinC (fmL (t2::r))++93::x:=by
    rw[←List.drop_drop,List.drop_left' rfl];rfl
   rw[hd,h3];dsimp only;have el:(joinC (fmL (t::t2::r))).length=(fmT t).length+1+(joinC (fmL (t2::r))).length:=by
    simp only[fmL,joinC,List.length_append,List.length_cons];omega
   rw[el];rfl
def BkM(p q:List UInt8×JT):Prop:=p.1=q.1∧Bk p.2 q.2
theorem strT_nb(n x:List UInt8):nb (strT n++x)=0:=by
 unfold strT;simp only[List.cons_append];exact nb_of _ _ (by decide)
theorem objF_back(v:List UInt8→Nat→JR JT):∀(ms:List (List UInt8×JT)),ms≠[]→(∀p∈ms,U8 p.1∧Rd v p.2)→(ms.map Prod.fst).Pairwise (fun a b=>a≠b)→∀(ks:List (List UInt8)),(∀p∈ms,p.1∉ks)→∀(f:Nat),ms.length≤f→∀(i:Nat) (x:List UInt8),∃us,objF v f ks (joinC ((fmM ms).map memP)++125::x) i=.ok (us,(joinC ((fmM ms).map memP)).length+1)∧All2 BkM ms us
 | [],h,_,_,_,_,_,_,_,_=>absurd rfl h
 | [(n,t)],_,hv,_,ks,hk,f,hf,i,x=>by
   obtain⟨f,rfl⟩:∃g,f=g+1:=⟨f-1,by simp at hf;omega⟩;obtain⟨hu,hr⟩:=hv (n,t) (by simp);have hk':n∉ks:=hk (n,t) (by simp);obtain⟨u,h1,h2⟩:=hr (125::x) (beh_of _ _ (by decide)) (i+((strT n).length+1));refine⟨[(n,u)],?_,.cons ⟨rfl,h2⟩ .nil⟩;have e:joinC ((fmM [(n,t)]).map memP)++125::x=strT n++58::(fmT t++125::x):=by simp[fmM,joinC,memP]
   have hq:=quotL_ext (58::(fmT t++125::x)) (quotL_strT hu);have hd1:(strT n++58::(fmT t++125::x)).drop ((strT n).length+1)=fmT t++125::x:=by rw[←List.drop_drop,List.drop_left' rfl];rfl
   have hd2:(strT n++58::(fmT t++125::x)).drop ((strT n).length+1+(fmT t).length)=125::x:=by rw[←List.drop_drop,hd1,List.drop_left' rfl]
   rw[e,objF];dsimp only;rw[strT_nb,List.drop_zero,hq];dsimp only;rw[if_neg hk',Nat.zero_add,List.drop_left' rfl,nb_of _ _ (by decide),Nat.add_zero,List.drop_left' rfl];dsimp only;rw[if_pos rfl,hd1,fmT_nb,Nat.add_zero,hd1,h1];dsimp only;rw[hd2,nb_of _ _ (by decide),Nat.add_zero,hd2];dsimp only;rw[if_neg (by decide),if_pos rfl];simp[fmM,joinC,memP];omega
 | (n,t)::p2::r,_,hv,hpw,ks,hk,f,hf,i,x=>by
   obtain⟨f,rfl⟩:∃g,f=g+1:=⟨f-1,by simp at hf;omega⟩;obtain⟨hu,hr⟩:=hv (n,t) (by simp);have hk':n∉ks:=hk (n,t) (by simp);rw[List.map_cons,List.pairwise_cons]at hpw;obtain⟨us,h3,h4⟩:=objF_back v (p2::r) (by simp) (fun p hp=>hv p (List.mem_cons_of_mem _ hp)) hpw.2 (ks++[n]) (fun p hp hm=>by
    rcases List.mem_append.1 hm with hm|hm
    ·exact hk p (List.mem_cons_of_mem _ hp) hm
    ·simp at hm
     exact hpw.1 p.1 (List.mem_map_of_mem hp) hm.symm) f (by simp at hf ⊢;omega) (i+((strT n).length+1+(fmT t).length+1)) x
   generalize hz:joinC ((fmM (p2::r)).map memP)=z at *;obtain⟨u,h1,h2⟩:=hr (44::(z++125::x)) (beh_of _ _ (by decide)) (i+((strT n).length+1));refine⟨(n,u)::us,?_,.cons ⟨rfl,h2⟩ h4⟩;have ej:joinC ((fmM ((n,t)::p2::r)).map memP)=strT n++58::(fmT t++44::z):=by
    rw[←hz];obtain⟨n2,t2⟩:=p2;simp[fmM,joinC,memP]
   have e:joinC ((fmM ((n,t)::p2::r)).map memP)++125::x=strT n++58::(fmT t++44::(z++125::x)):=by rw[ej];simp
   have hq:=quotL_ext (58::(fmT t++44::(z++125::x))) (quotL_strT hu);have hd1:(strT n++58::(fmT t++44::(z++125::x))).drop ((strT n).length+1)=fmT t++44::(z++125::x):=by rw[←List.drop_drop,List.drop_left' rfl];rfl
   have hd2:(strT n++58::(fmT t++44::(z++125::x))).drop ((strT n).length+1+(fmT t).length)=44::(z++125::x):=by rw[←List.drop_drop,hd1,List.drop_left' rfl]
   have hd3:(strT n++58::(fmT t++44::(z++125::x))).drop ((strT n).length+1+(fmT t).length+1)=z++125::x:=by rw[←List.drop_drop,hd2];rfl
   rw[e,objF];dsimp only;rw[strT_nb,List.drop_zero,hq];dsimp only;rw[if_neg hk',Nat.zero_add,List.drop_left' rfl,nb_of _ _ (by decide),Nat.add_zero,List.drop_left' rfl];dsimp only;rw[if_pos rfl,hd1,fmT_nb,Nat.add_zero,hd1,h1];dsimp only;rw[hd2,nb_of _ _ (by decide),Nat.add_zero,hd2];dsimp only;rw[if_pos rfl,hd3,h3];dsimp only;rw[ej];simp;omega
theorem all2_fmL{ts us:List JT}(h:All2 Bk ts us):fmL us=fmL ts∧sizeL us=sizeL ts∧All2 Al ts us:=by
 induction h with
 | nil=>exact⟨rfl,rfl,.nil⟩
 | cons hb _ ih=>exact⟨by rw[fmL,fmL,hb.2.1,ih.1],by rw[sizeL,sizeL,hb.2.2,ih.2.1],.cons hb.1 ih.2.2⟩
theorem all2_fmM{ms us:List (List UInt8×JT)}(h:All2 BkM ms us):fmM us=fmM ms∧sizeM us=sizeM ms∧us.map Prod.fst=ms.map Prod.fst:=by
 induction h with
 | nil=>exact⟨rfl,rfl,rfl⟩
 | @cons a b _ _ hb _ ih=>
   obtain⟨n,t⟩:=a;obtain⟨n',u⟩:=b;obtain⟨rfl,hb⟩:=hb;exact⟨by rw[fmM,fmM,ih.1];simp only[hb.2.1],by rw[sizeM,sizeM,ih.2.1];simp only[hb.2.2],by simp[ih.2.2]⟩
theorem joinC_ge:∀l:List (List UInt8),(∀a∈l,a≠[])→l.length≤(joinC l).length
 | [],_=>by simp[joinC]
 | [a],h=>by
   have:=List.length_pos_iff.2 (h a (by simp));simp[joinC];omega
 | a::b::r,h=>by
   have:=joinC_ge (b::r) (fun x hx=>h x (List.mem_cons_of_mem _ hx));simp[joinC]at this ⊢;omega
theorem back:∀(k:Nat) (t:JT),t.size≤k→okN t→okI t→∀d,dpT t d→Rd (valL d) t:=by
 intro k;induction k with
 | zero=>intro t h;have:=size_pos t;omega
 | succ k ih=>
   intro t hs hn hi d hd;suffices h:∀i,∃u,valL d (fmT t) i=.ok (u,(fmT t).length)∧Bk t u by
    intro x hx i;obtain⟨u,h1,h2⟩:=h i;exact⟨u,(valL_ext x hx d _ _ _ _ h1).2,h2⟩
   intro i;cases t with
   | null a=>
     refine⟨.null i,?_,by rw[Al];exact⟨i,rfl⟩,rfl,rfl⟩;rw[fmT,valL_cons,if_neg (by decide),if_neg (by decide),if_pos (by decide)];rfl
   | truth b a=>
     refine⟨.truth b i,?_,by rw[Al];exact⟨i,rfl⟩,rfl,rfl⟩;cases b
     ·rw[show fmT (.truth false a)=[102,97,108,115,101]from rfl,valL_cons,if_neg (by decide),if_neg (by decide),if_pos (by decide)]
      rfl
     ·rw[show fmT (.truth true a)=[116,114,117,101]from rfl,valL_cons,if_neg (by decide),if_neg (by decide),if_pos (by decide)]
      rfl
   | int n a=>
     refine⟨.int n i,?_,by rw[Al];exact⟨i,rfl⟩,rfl,rfl⟩;rw[okI]at hi;have hq:=intL_dec n;rw[if_neg (by omega)]at hq;have hc:∃c r,decI n=c::r∧(c=45∨isD c=true)∧c≠34:=by
      obtain⟨x,_,⟨_,e,_⟩|⟨_,e⟩⟩:=decI_abs n
      ·exact⟨45,_,e,.inl rfl,by decide⟩
      ·obtain⟨c,r,hc,hd,_⟩:=decN_head x
       exact⟨c,r,by rw[e,hc],.inr hd,by rintro rfl;simp[isD]at hd⟩
     obtain⟨c,r,e,h1,h2⟩:=hc;rw[fmT,e,valL_cons,if_neg h2,if_pos h1,←e,hq]
   | str s a=>
     refine⟨.str s i,?_,by rw[Al];exact⟨i,rfl⟩,rfl,rfl⟩;rw[okI]at hi;have hq:=quotL_strT hi;obtain⟨r,e⟩:∃r,strT s=34::r:=⟨_,rfl⟩;rw[fmT,e,valL_cons,if_pos rfl,←e,hq]
   | arr ts a=>
     rw[okN]at hn;rw[okI]at hi;rw[dpT]at hd;obtain⟨d,rfl⟩:∃e,d=e+1:=⟨d-1,by omega⟩;rw[Nat.add_sub_cancel]at hd;rw[JT.size]at hs;have hv:∀t∈ts,Rd (valL d) t:=fun t ht=>ih t (by have:=sizeL_mem ts t ht;omega) (okNL_mem ts hn t ht) (okIL_mem ts hi t ht) d (dpL_mem d ts hd.2 t ht)
     have e:fmT (.arr ts a)=91::(joinC (fmL ts)++[93]):=rfl;rw[e,valL_cons,if_neg (by decide),if_neg (by decide),if_neg (by decide),if_pos (by decide)];dsimp only;rw[if_pos rfl];by_cases h0:ts=[]
     ·subst h0
      exact⟨.arr [] i,rfl,by rw[Al];exact⟨[],i,rfl,by rw[AlL]⟩,rfl,rfl⟩
     ·obtain⟨t0,r0,ht0⟩:∃t0 r0,ts=t0::r0:=by
       cases ts with
       | nil=>exact absurd rfl h0
       | cons a b=>exact⟨a,b,rfl⟩
      obtain⟨c,r,hc1,hc2,hc3⟩:=fmT_head t0;have hj:∃q,joinC (fmL ts)++[93]=c::q:=by
       rw[ht0];cases r0 with
       | nil=>simp[fmL,joinC,hc1]
       | cons a b=>simp[fmL,joinC,hc1]
      obtain⟨q,hj⟩:=hj;obtain⟨us,h1,h2⟩:=arrF_back (valL d) ts h0 hv ((91::(joinC (fmL ts)++[93]):List UInt8).length+1) (by
       have:=joinC_ge (fmL ts) (fun a ha=>by
        rw[fmL_map]at ha;obtain⟨t,_,rfl⟩:=List.mem_map.1 ha;obtain⟨c,r,e,_⟩:=fmT_head t;rw[e];simp)
       rw[fmL_map,List.length_map]at this;rw[fmL_map];simp only[List.length_cons,List.length_append,List.length_nil];omega) (i+1) []
      obtain⟨g1,g2,g3⟩:=all2_fmL h2;refine⟨.arr us i,?_,by rw[Al];exact⟨us,i,rfl,AlL_of g3⟩,by rw[e];show 91::(joinC (fmL us)++[93])=_;rw[g1],by rw[JT.size,JT.size,g2]⟩;unfold arrL;dsimp only;rw[List.drop_succ_cons,List.drop_zero,hj,nb_of _ _ hc2,Nat.add_zero,List.drop_succ_cons,List.drop_zero,List.head?_cons,if_neg (by simp[hc3]),←hj,h1];simp;omega
   | obj ms a=>
     rw[okN]at hn;rw[okI]at hi;rw[dpT]at hd;obtain⟨d,rfl⟩:∃e,d=e+1:=⟨d-1,by omega⟩;rw[Nat.add_sub_cancel]at hd;rw[JT.size]at hs;have hp:=srtM_perm ms;have hv:∀p∈srtM ms,U8 p.1∧Rd (valL d) p.2:=fun p hm=>by
      have hm:=hp.mem_iff.1 hm;exact⟨(okNM_mem ms hn.1 p hm).1,ih p.2 (by have:=sizeM_mem ms p hm;omega) (okNM_mem ms hn.1 p hm).2 (okIM_mem ms hi p hm) d (dpM_mem d ms hd.2 p hm)⟩
     have hpw:((srtM ms).map Prod.fst).Pairwise (fun a b=>a≠b):=List.Pairwise.perm hn.2 (hp.map Prod.fst).symm (fun {a b} h=>h.symm);have e:fmT (.obj ms a)=123::(joinC ((fmM (srtM ms)).map memP)++[125]):=by rw[←srtM_fm];rfl
     rw[e,valL_cons,if_neg (by decide),if_neg (by decide),if_neg (by decide),if_pos (by decide)];dsimp only;rw[if_neg (by decide)];have hl0:(srtM ms).length=ms.length:=hp.length_eq;by_cases h0:ms=[]
     ·subst h0
      exact⟨.obj [] i,rfl,by rw[Al];exact⟨[],i,rfl,rfl,.nil,by rw[AlM];trivial⟩,rfl,rfl⟩
     ·have h0':srtM ms≠[]:=fun e=>by rw[e]at hl0;exact h0 (List.eq_nil_of_length_eq_zero hl0.symm)
      obtain⟨p0,r0,ht0⟩:∃t0 r0,srtM ms=t0::r0:=by
       cases h:srtM ms with
       | nil=>exact absurd h h0'
       | cons a b=>exact⟨a,b,rfl⟩
      have hj:∃q,joinC ((fmM (srtM ms)).map memP)++[125]=34::q:=by
       rw[ht0];obtain⟨n0,t0⟩:=p0;cases r0 with
       | nil=>exact⟨_,rfl⟩
       | cons a b=>exact⟨_,rfl⟩
      obtain⟨q,hj⟩:=hj;obtain⟨us,h1,h2⟩:=objF_back (valL d) (srtM ms) h0' hv hpw [] (fun p _ h=>by simp at h) ((123::(joinC ((fmM (srtM ms)).map memP)++[125]):List UInt8).length+1) (by
       have:=joinC_ge ((fmM (srtM ms)).map memP) (fun a ha=>by
        obtain⟨t,_,rfl⟩:=List.mem_map.1 ha;simp[memP])
       rw[fmM_map,List.length_map,List.length_map]at this;rw[fmM_map];simp only[List.length_cons,List.length_append,List.length_nil];omega) (i+1) []
      obtain⟨g1,g2,g3⟩:=all2_fmM h2;have hso:(fmM us).Pairwise (fun a b=>aheadL a.1 b.1=true):=by
       rw[g1,fmM_map,List.pairwise_map];exact srtM_sorted ms hn.1 hn.2
      refine⟨.obj us i,?_,by
       rw[Al];refine⟨us,i,rfl,by rw[h2.length,hl0],by rw[g3];exact hpw,AlM_of ms us (fun p hm=>?_)⟩;obtain⟨b,hb,e1,e2⟩:=h2.mem p (hp.mem_iff.2 hm);exact⟨b.2,by rw[e1];exact hb,e2.1⟩,by rw[e];show 123::(joinC ((srtP (fmM us)).map memP)++[125])=_;rw[srtP_same _ hso,g1],by rw[JT.size,JT.size,g2,srtM_size]⟩
      unfold objL;dsimp only;rw[List.drop_succ_cons,List.drop_zero,hj,nb_of _ _ (by decide),Nat.add_zero,List.drop_succ_cons,List.drop_zero,List.head?_cons,if_neg (by decide),←hj,h1];simp;omega
theorem readL_again{s:List UInt8}{t:JT}(h:readL s=.ok t):(fmT t).length≤s.length∧∃u,readL (fmT t)=.ok u∧Al t u∧fmT u=fmT t∧u.size=t.size:=by
 obtain⟨h1,h2,h3,h4⟩:=readL_fit h;have hn:=readL_okn h;obtain⟨u,hv,hb⟩:=back t.size t (Nat.le_refl _) hn h2 32 h3 [] (fun c r e=>by cases e) 0;rw[List.append_nil]at hv;refine⟨h1,u,?_,hb⟩;have h0:=fmT_nb t [];rw[List.append_nil]at h0;unfold readL;rw[if_neg (by omega)];dsimp only;rw[h0,List.drop_zero,hv];dsimp only;rw[Nat.zero_add,List.drop_of_length_le (Nat.le_refl _)];rw[if_neg (by simp[nb])]
end Go.Proofs.YtbbopknnoamkbaaGreatDoor
