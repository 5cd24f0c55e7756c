import Derived.Test.YtihboehpeehlmaaGreatDoorNSeq
set_option maxHeartbeats 2000000
set_option maxRecDepth 4000
namespace Go.Proofs.YtihboehpeehlmaaGreatDoor
open Tryz
open Go.RowKit
set_option linter.unusedVariables false
section
attribute [local go_sem] jG pj
theorem Fb(w:Wd):Calls prog 115 #[.int .u8 34] w fun e a=>e=.returned (.string ⟨#[92,34]⟩)/\Below w.heap.size w a:=by
 have b:∀W:Wd,Sem.run prog (convert 115 9 (.slice (some ⟨W.heap.size,0,none⟩) 2 2)) (W.alloc (.cells #[.int .u8 92,.int .u8 34] 5))=.ok (.string ⟨#[92,34]⟩) (W.alloc (.cells #[.int .u8 92,.int .u8 34] 5)):=fun W=>pj W 92 34
 go_enter func115,KL;go_wp2;go_ret;exact⟨rfl,cK (cF _) _⟩
theorem Fa(w:Wd):Calls prog 115 #[.int .u8 92] w fun e a=>e=.returned (.string ⟨#[92,92]⟩)/\Below w.heap.size w a:=by
 have b:∀W:Wd,Sem.run prog (convert 115 9 (.slice (some ⟨W.heap.size,0,none⟩) 2 2)) (W.alloc (.cells #[.int .u8 92,.int .u8 92] 5))=.ok (.string ⟨#[92,92]⟩) (W.alloc (.cells #[.int .u8 92,.int .u8 92] 5)):=fun W=>pj W 92 92
 go_enter func115,KL;go_wp2;go_ret;exact⟨rfl,cK (cF _) _⟩
theorem Iu(w:Wd):Calls prog 115 #[.int .u8 0] w fun e a=>e=.returned (.string ⟨#[92,117,48,48,48,48]⟩)/\Below w.heap.size w a:=by
 go_enter func115,KL;go_wp2
 go_quiet (fail);go_wp2;go_ret;exact⟨rfl,em (cF _) nq⟩
theorem Ir(w:Wd):Calls prog 115 #[.int .u8 1] w fun e a=>e=.returned (.string ⟨#[92,117,48,48,48,49]⟩)/\Below w.heap.size w a:=by
 go_enter func115,KL;go_wp2
 go_quiet (fail);go_wp2;go_ret;exact⟨rfl,em (cF _) nq⟩
theorem IC(w:Wd):Calls prog 115 #[.int .u8 2] w fun e a=>e=.returned (.string ⟨#[92,117,48,48,48,50]⟩)/\Below w.heap.size w a:=by
 go_enter func115,KL;go_wp2
 go_quiet (fail);go_wp2;go_ret;exact⟨rfl,em (cF _) nq⟩
theorem H8(w:Wd):Calls prog 115 #[.int .u8 3] w fun e a=>e=.returned (.string ⟨#[92,117,48,48,48,51]⟩)/\Below w.heap.size w a:=by
 go_enter func115,KL;go_wp2
 go_quiet (fail);go_wp2;go_ret;exact⟨rfl,em (cF _) nq⟩
theorem G7(w:Wd):Calls prog 115 #[.int .u8 4] w fun e a=>e=.returned (.string ⟨#[92,117,48,48,48,52]⟩)/\Below w.heap.size w a:=by
 go_enter func115,KL;go_wp2
 go_quiet (fail);go_wp2;go_ret;exact⟨rfl,em (cF _) nq⟩
theorem IU(w:Wd):Calls prog 115 #[.int .u8 5] w fun e a=>e=.returned (.string ⟨#[92,117,48,48,48,53]⟩)/\Below w.heap.size w a:=by
 go_enter func115,KL;go_wp2
 go_quiet (fail);go_wp2;go_ret;exact⟨rfl,em (cF _) nq⟩
theorem Io(w:Wd):Calls prog 115 #[.int .u8 6] w fun e a=>e=.returned (.string ⟨#[92,117,48,48,48,54]⟩)/\Below w.heap.size w a:=by
 go_enter func115,KL;go_wp2
 go_quiet (fail);go_wp2;go_ret;exact⟨rfl,em (cF _) nq⟩
theorem ID(w:Wd):Calls prog 115 #[.int .u8 7] w fun e a=>e=.returned (.string ⟨#[92,117,48,48,48,55]⟩)/\Below w.heap.size w a:=by
 go_enter func115,KL;go_wp2
 go_quiet (fail);go_wp2;go_ret;exact⟨rfl,em (cF _) nq⟩
theorem IH(w:Wd):Calls prog 115 #[.int .u8 8] w fun e a=>e=.returned (.string ⟨#[92,98]⟩)/\Below w.heap.size w a:=by
 go_enter func115,KL;go_wp2;go_ret;exact⟨rfl,cF _⟩
theorem Hn(w:Wd):Calls prog 115 #[.int .u8 9] w fun e a=>e=.returned (.string ⟨#[92,116]⟩)/\Below w.heap.size w a:=by
 go_enter func115,KL;go_wp2;go_ret;exact⟨rfl,cF _⟩
theorem GG(w:Wd):Calls prog 115 #[.int .u8 10] w fun e a=>e=.returned (.string ⟨#[92,110]⟩)/\Below w.heap.size w a:=by
 go_enter func115,KL;go_wp2;go_ret;exact⟨rfl,cF _⟩
theorem Gq(w:Wd):Calls prog 115 #[.int .u8 11] w fun e a=>e=.returned (.string ⟨#[92,117,48,48,48,98]⟩)/\Below w.heap.size w a:=by
 go_enter func115,KL;go_wp2
 go_quiet (fail);go_wp2;go_ret;exact⟨rfl,em (cF _) nq⟩
theorem Fj(w:Wd):Calls prog 115 #[.int .u8 12] w fun e a=>e=.returned (.string ⟨#[92,102]⟩)/\Below w.heap.size w a:=by
 go_enter func115,KL;go_wp2;go_ret;exact⟨rfl,cF _⟩
theorem Gx(w:Wd):Calls prog 115 #[.int .u8 13] w fun e a=>e=.returned (.string ⟨#[92,114]⟩)/\Below w.heap.size w a:=by
 go_enter func115,KL;go_wp2;go_ret;exact⟨rfl,cF _⟩
theorem FW(w:Wd):Calls prog 115 #[.int .u8 14] w fun e a=>e=.returned (.string ⟨#[92,117,48,48,48,101]⟩)/\Below w.heap.size w a:=by
 go_enter func115,KL;go_wp2
 go_quiet (fail);go_wp2;go_ret;exact⟨rfl,em (cF _) nq⟩
theorem FU(w:Wd):Calls prog 115 #[.int .u8 15] w fun e a=>e=.returned (.string ⟨#[92,117,48,48,48,102]⟩)/\Below w.heap.size w a:=by
 go_enter func115,KL;go_wp2
 go_quiet (fail);go_wp2;go_ret;exact⟨rfl,em (cF _) nq⟩
theorem F5(w:Wd):Calls prog 115 #[.int .u8 16] w fun e a=>e=.returned (.string ⟨#[92,117,48,48,49,48]⟩)/\Below w.heap.size w a:=by
 go_enter func115,KL;go_wp2
 go_quiet (fail);go_wp2;go_ret;exact⟨rfl,em (cF _) nq⟩
theorem F9(w:Wd):Calls prog 115 #[.int .u8 17] w fun e a=>e=.returned (.string ⟨#[92,117,48,48,49,49]⟩)/\Below w.heap.size w a:=by
 go_enter func115,KL;go_wp2
 go_quiet (fail);go_wp2;go_ret;exact⟨rfl,em (cF _) nq⟩
theorem Gl(w:Wd):Calls prog 115 #[.int .u8 18] w fun e a=>e=.returned (.string ⟨#[92,117,48,48,49,50]⟩)/\Below w.heap.size w a:=by
 go_enter func115,KL;go_wp2
 go_quiet (fail);go_wp2;go_ret;exact⟨rfl,em (cF _) nq⟩
theorem Fv(w:Wd):Calls prog 115 #[.int .u8 19] w fun e a=>e=.returned (.string ⟨#[92,117,48,48,49,51]⟩)/\Below w.heap.size w a:=by
 go_enter func115,KL;go_wp2
 go_quiet (fail);go_wp2;go_ret;exact⟨rfl,em (cF _) nq⟩
theorem Gn(w:Wd):Calls prog 115 #[.int .u8 20] w fun e a=>e=.returned (.string ⟨#[92,117,48,48,49,52]⟩)/\Below w.heap.size w a:=by
 go_enter func115,KL;go_wp2
 go_quiet (fail);go_wp2;go_ret;exact⟨rfl,em (cF _) nq⟩
theorem Fu(w:Wd):Calls prog 115 #[.int .u8 21] w fun e a=>e=.returned (.string ⟨#[92,117,48,48,49,53]⟩)/\Below w.heap.size w a:=by
 go_enter func115,KL;go_wp2
 go_quiet (fail);go_wp2;go_ret;exact⟨rfl,em (cF _) nq⟩
theorem Fx(w:Wd):Calls prog 115 #[.int .u8 22] w fun e a=>e=.returned (.string ⟨#[92,117,48,48,49,54]⟩)/\Below w.heap.size w a:=by
 go_enter func115,KL;go_wp2
 go_quiet (fail);go_wp2;go_ret;exact⟨rfl,em (cF _) nq⟩
theorem GH(w:Wd):Calls prog 115 #[.int .u8 23] w fun e a=>e=.returned (.string ⟨#[92,117,48,48,49,55]⟩)/\Below w.heap.size w a:=by
 go_enter func115,KL;go_wp2
 go_quiet (fail);go_wp2;go_ret;exact⟨rfl,em (cF _) nq⟩
theorem Fq(w:Wd):Calls prog 115 #[.int .u8 24] w fun e a=>e=.returned (.string ⟨#[92,117,48,48,49,56]⟩)/\Below w.heap.size w a:=by
 go_enter func115,KL;go_wp2
 go_quiet (fail);go_wp2;go_ret;exact⟨rfl,em (cF _) nq⟩
theorem Gb(w:Wd):Calls prog 115 #[.int .u8 25] w fun e a=>e=.returned (.string ⟨#[92,117,48,48,49,57]⟩)/\Below w.heap.size w a:=by
 go_enter func115,KL;go_wp2
 go_quiet (fail);go_wp2;go_ret;exact⟨rfl,em (cF _) nq⟩
theorem FG(w:Wd):Calls prog 115 #[.int .u8 26] w fun e a=>e=.returned (.string ⟨#[92,117,48,48,49,97]⟩)/\Below w.heap.size w a:=by
 go_enter func115,KL;go_wp2
 go_quiet (fail);go_wp2;go_ret;exact⟨rfl,em (cF _) nq⟩
theorem GI(w:Wd):Calls prog 115 #[.int .u8 27] w fun e a=>e=.returned (.string ⟨#[92,117,48,48,49,98]⟩)/\Below w.heap.size w a:=by
 go_enter func115,KL;go_wp2
 go_quiet (fail);go_wp2;go_ret;exact⟨rfl,em (cF _) nq⟩
theorem GA(w:Wd):Calls prog 115 #[.int .u8 28] w fun e a=>e=.returned (.string ⟨#[92,117,48,48,49,99]⟩)/\Below w.heap.size w a:=by
 go_enter func115,KL;go_wp2
 go_quiet (fail);go_wp2;go_ret;exact⟨rfl,em (cF _) nq⟩
theorem FE(w:Wd):Calls prog 115 #[.int .u8 29] w fun e a=>e=.returned (.string ⟨#[92,117,48,48,49,100]⟩)/\Below w.heap.size w a:=by
 go_enter func115,KL;go_wp2
 go_quiet (fail);go_wp2;go_ret;exact⟨rfl,em (cF _) nq⟩
theorem F3(w:Wd):Calls prog 115 #[.int .u8 30] w fun e a=>e=.returned (.string ⟨#[92,117,48,48,49,101]⟩)/\Below w.heap.size w a:=by
 go_enter func115,KL;go_wp2
 go_quiet (fail);go_wp2;go_ret;exact⟨rfl,em (cF _) nq⟩
theorem GC(w:Wd):Calls prog 115 #[.int .u8 31] w fun e a=>e=.returned (.string ⟨#[92,117,48,48,49,102]⟩)/\Below w.heap.size w a:=by
 go_enter func115,KL;go_wp2
 go_quiet (fail);go_wp2;go_ret;exact⟨rfl,em (cF _) nq⟩
theorem Bn(c:UInt8)(w:Wd)(b:c≠34)(a:c≠92)(j:32<=c.toNat):Calls prog 115 #[.int .u8 (c.toNat:Int)] w fun e d=>e=.returned (.string ⟨#[c]⟩)/\Below w.heap.size w d:=by
 have m:=eB (k:=34) (by omega) b;have l:=eB (k:=92) (by omega) a
 go_enter func115,KL;go_wp2;go_ret;exact⟨rfl,cK (cF _) _⟩
end
theorem yC(c:UInt8)(w:Wd):Calls prog 115 #[.int .u8 (c.toNat:Int)] w fun e j=>e=.returned (.string ⟨(eC c).toArray⟩)/\Below w.heap.size w j:=by
 by_cases g:c.toNat<32
 ·have a:c=UInt8.ofNat c.toNat:=by simp
  have i:c.toNat=0\/c.toNat=1\/c.toNat=2\/c.toNat=3\/c.toNat=4\/c.toNat=5\/c.toNat=6\/c.toNat=7\/c.toNat=8\/c.toNat=9\/c.toNat=10\/c.toNat=11\/c.toNat=12\/c.toNat=13\/c.toNat=14\/c.toNat=15\/c.toNat=16\/c.toNat=17\/c.toNat=18\/c.toNat=19\/c.toNat=20\/c.toNat=21\/c.toNat=22\/c.toNat=23\/c.toNat=24\/c.toNat=25\/c.toNat=26\/c.toNat=27\/c.toNat=28\/c.toNat=29\/c.toNat=30\/c.toNat=31:=by omega
  rcases i with h|h|h|h|h|h|h|h|h|h|h|h|h|h|h|h|h|h|h|h|h|h|h|h|h|h|h|h|h|h|h|h
  ·rw[h]at a;subst a;exact Iu w
  ·rw[h]at a;subst a;exact Ir w
  ·rw[h]at a;subst a;exact IC w
  ·rw[h]at a;subst a;exact H8 w
  ·rw[h]at a;subst a;exact G7 w
  ·rw[h]at a;subst a;exact IU w
  ·rw[h]at a;subst a;exact Io w
  ·rw[h]at a;subst a;exact ID w
  ·rw[h]at a;subst a;exact IH w
  ·rw[h]at a;subst a;exact Hn w
  ·rw[h]at a;subst a;exact GG w
  ·rw[h]at a;subst a;exact Gq w
  ·rw[h]at a;subst a;exact Fj w
  ·rw[h]at a;subst a;exact Gx w
  ·rw[h]at a;subst a;exact FW w
  ·rw[h]at a;subst a;exact FU w
  ·rw[h]at a;subst a;exact F5 w
  ·rw[h]at a;subst a;exact F9 w
  ·rw[h]at a;subst a;exact Gl w
  ·rw[h]at a;subst a;exact Fv w
  ·rw[h]at a;subst a;exact Gn w
  ·rw[h]at a;subst a;exact Fu w
  ·rw[h]at a;subst a;exact Fx w
  ·rw[h]at a;subst a;exact GH w
  ·rw[h]at a;subst a;exact Fq w
  ·rw[h]at a;subst a;exact Gb w
  ·rw[h]at a;subst a;exact FG w
  ·rw[h]at a;subst a;exact GI w
  ·rw[h]at a;subst a;exact GA w
  ·rw[h]at a;subst a;exact FE w
  ·rw[h]at a;subst a;exact F3 w
  ·rw[h]at a;subst a;exact GC w
 ·by_cases d:c=34
  ·subst d;exact Fb w
  ·by_cases f:c=92
   ·subst f;exact Fa w
   ·have e:eC c=[c]:=by
     have b:∀k:Nat,k<32->c≠UInt8.ofNat k:=fun k i e=>by rw[e]at g;simp at g;omega
     unfold eC;rw[if_neg (by simp[d,f]),if_neg (show c≠8 from b 8 (by omega)),if_neg (show c≠9 from b 9 (by omega)),if_neg (show c≠10 from b 10 (by omega)),if_neg (show c≠12 from b 12 (by omega)),if_neg (show c≠13 from b 13 (by omega)),if_neg g]
    rw[e];exact Bn c w d f (by omega)
theorem Dr(s:dv)(w:Wd)(U:s.size<=1000000000):Calls prog 81 #[.string s] w fun e I=>e=.returned (.string ⟨(dk s.data.toList).toArray⟩)/\Below w.heap.size w I:=by
 obtain⟨g,x,h,o,n⟩:=Kf eb;have l:Hid _:=x;clear x;go_enter func81,ntmps81;go_wp2_with (refine gV rfl (.tmp 6) (.tmp 7) 115 rfl 5 g JU l.out h o n w.heap.size _ [] 34 w rfl (.inl ⟨rfl,rfl⟩) (JQ _) (by simp) rfl ?_;intro S Q q C;have A:Hid (OwnB w.heap.size 5 S [34] Q):=q;have r:Hid _:=C;clear q C)
 go_loopw [3,4] (fun v i wr=>∃j:Nat,j<=s.size/\i=.int .i64 (j:Int)/\OwnB w.heap.size 5 v (34::cS (s.data.toList.take j)) wr/\Below w.heap.size w wr) (fun _ i _=>s.size-(intOf i).toNat)
 case atStart=>exact⟨0,by omega,rfl,by simpa [cS]using A.out,r.out⟩
 case round=>
  clear A r;obtain⟨j,W,rfl,D,u⟩:=hrel;have p:Hid (OwnB w.heap.size 5 _ (34::cS (s.data.toList.take j)) wr):=D;have b:Hid _:=u;have B:(cS (s.data.toList.take j)).length<=6*j:=Ki (ll _) (by simp;omega);have z:Hid _:=B;clear D u B;by_cases N:j<s.size
  ·have V:(j:Int)<(s.size:Int):=by omega
   have y:=yC s[j];have M:Hid (cS (s.data.toList.take (j+1))=cS (s.data.toList.take j)++eC s[j]):=by
    show cS (s.data.toList.take (j+1))=cS (s.data.toList.take j)++eC s[j]
    rw[Ks (by simpa using N),fW];simp[cS];rfl
   have L:Hid _:=t7 s[j];go_wp2_with fail
   refine(y _).mono ?_;rintro e K ⟨rfl,a⟩;have O:=Ki b.out.size a.size;have R:Hid _:=b.out.trans ⟨a.os,a.tape,a.output,a.size,fun k X=>a.block k (by have:=b.out.size;omega)⟩;have H:Hid (OwnB w.heap.size 5 u3 (34::cS (s.data.toList.take j)) K):=p.out.below a (JQ _);clear y a p b;go_wp2_with (refine qJ rfl (.tmp 19) (.tmp 20) 115 9 rfl 5 g JU Kl l.out h o n w.heap.size _ (34::cS (s.data.toList.take j)) ⟨(eC s[j]).toArray⟩ rfl rfl (by have:=z.out;have:=L.out;show(34::cS (s.data.toList.take j)).length+(eC s[j]).toArray.size<=140737488355328;simp;omega) H.out O ?_;intro G J f c;have E:Hid _:=f;have m:Hid _:=c;clear f c)
   refine⟨⟨j+1,by omega,by go_num,?_,R.out.trans m.out⟩,by simp[intOf];omega⟩;rw[M.out];exact E.out
  ·obtain rfl:j=s.size:=by omega
   have F:=b.out.size;go_wp2_with (refine gV rfl (.tmp 22) (.tmp 23) 115 rfl 5 g JU l.out h o n w.heap.size _ (34::cS (s.data.toList.take s.size)) 34 wr rfl p.out F (by have:=z.out;simp;omega) rfl ?_;intro G J f c;have T:=f.str (P:=prog) (t:=115) (d:=9) JU KY Kl;have m:Hid _:=c;clear f c)
   go_ret;refine⟨?_,b.out.trans m.out⟩;have e:s.data.toList.take s.size=s.data.toList:=Kd (by simp);rw[e];rfl
theorem zm(s:dv)(w:Wd)(hs:s.size<=1000000000):Calls prog 142 #[.string s] w fun e P=>∃v,e=.returned v/\P.ownsRow w.heap.size 3 1 v (unitsL s.data.toList).length ((unitsL s.data.toList).map iV)/\Below w.heap.size w P:=by
 obtain⟨L,ag,H,M,J⟩:=Kf lv;have I:Hid _:=ag;clear ag;go_enter func142,ntmps142;go_wp2_with fail
 go_loopw [3,4] (fun v i wr=>mR s w v i wr) (fun _ i _=>s.size-(intOf i).toNat)
 case atStart=>exact⟨0,[],by omega,rfl,by simp,by simp[b9],Le _ _ _ _,JI _ _⟩
 case round=>
  obtain⟨j,a,hj,rfl,hu,he,ho,hb⟩:=hrel;have p:Hid _:=hu;have O:Hid _:=he;have S:Hid _:=ho;have Q:Hid _:=hb;have G:=hb.size;clear hu he ho hb;by_cases C:j<s.size
  ·have aj:(j:Int)<(s.size:Int):=by omega
   have T:=lQ (b9 s j);rw[cx]at T;rcases seq5 (b9 s j)with n|n|n|n|n
   ·have x:fb (b9 s j)=1:=by unfold fb;rw[n];rfl
    have ad:j+1<=s.size:=by omega
    have t:=fun w=>by have:=gZ s j w C (by omega);rw[n]at this;exact this
    clear n T;have HG:Hid (∀k,(b9 s j).getD k 0=if h:j+k<s.size then s[j+k]else(b9 s j).getD k 0):=fun k=>by split;exact eZ s j k (by assumption);rfl
    have d:Hid _:=x;clear x;have c0:(s[j].toNat:Int)<256:=by have:=s[j].toNat_lt;omega
    go_wp2_with fail
    refine(t _).mono ?_;rintro e K ⟨rfl,u⟩;rw[u];clear u K t;go_wp2_with fail
    go_loop [6,7] (fun r k=>∃m:Nat,1<=m/\m<=1/\k=.int .i64 (m:Int)/\r=.int .i64 (runeTo (b9 s j) 1 (m-1):Nat)) (fun _ k=>1-(intOf k).toNat)
    case atStart=>
     refine⟨1,by omega,by omega,rfl,?_⟩;have:=eZ s j 0 (by omega);simp only[L9,runeTo,this];rfl
    case round=>
     obtain⟨m,ae,ac,rfl,rfl⟩:=hrel;by_cases hm:m<1
     ·omega
     ·obtain rfl:m=1:=by omega
      have c:=gp (b9 s j) 1 (1-1);have b:Hid (cN (b9 s j)=runeTo (b9 s j) 1 (1-1)):=by show cN (b9 s j)=_;unfold cN;rw[d.out]
      generalize runeTo (b9 s j) 1 (1-1)=X at c b;have F:(X:Int)<67108864:=by omega
      by_cases o:X<65536
      ·have z:Hid ([X]=dx (cN (b9 s j))):=by show [X]=_;rw[b.out,dx,if_pos o]
       obtain⟨Y,f⟩:∃Y:Int,(X:Int)=Y:=⟨_,rfl⟩;rw[f];have y0:0<=Y:=by omega
       have y1:Y<65536:=by omega
       have q:Hid _:=f;clear f o c F b;go_wp2_with (refine ir rfl (.tmp 45) (.tmp 47) 32 rfl 3 L KT I.out H M J w.heap.size _ a.length (a.map iV) (.int .i64 Y) rfl wr rfl S.out G (by have:=p.out;omega) rfl ?_;intro U y l g;have A:Hid _:=l;have B:Hid _:=g;clear l g)
       go_roundw
       case rel=>exact mR.next C p.out O.out (by rw[d.out];go_num) (by rw[d.out];omega) z.out (by show y.ownsRow _ _ _ _ (a.length+1) (a.map iV++[.int .i64 (X:Int)]);rw[q.out];exact A.out) (Q.out.trans B.out)
       case measure=>simp[intOf];omega
      ·exfalso;clear b;simp at c;omega
   ·have x:fb (b9 s j)=1:=by unfold fb;rw[n];rfl
    have ad:j+1<=s.size:=by omega
    have t:=fun w=>by have:=gZ s j w C (by omega);rw[n]at this;exact this
    clear n T;have HG:Hid (∀k,(b9 s j).getD k 0=if h:j+k<s.size then s[j+k]else(b9 s j).getD k 0):=fun k=>by split;exact eZ s j k (by assumption);rfl
    have d:Hid _:=x;clear x;have c0:(s[j].toNat:Int)<256:=by have:=s[j].toNat_lt;omega
    go_wp2_with fail
    refine(t _).mono ?_;rintro e K ⟨rfl,u⟩;rw[u];clear u K t;go_wp2_with fail
    go_loop [6,7] (fun r k=>∃m:Nat,1<=m/\m<=1/\k=.int .i64 (m:Int)/\r=.int .i64 (runeTo (b9 s j) 1 (m-1):Nat)) (fun _ k=>1-(intOf k).toNat)
    case atStart=>
     refine⟨1,by omega,by omega,rfl,?_⟩;have:=eZ s j 0 (by omega);simp only[L9,runeTo,this];rfl
    case round=>
     obtain⟨m,ae,ac,rfl,rfl⟩:=hrel;by_cases hm:m<1
     ·omega
     ·obtain rfl:m=1:=by omega
      have c:=gp (b9 s j) 1 (1-1);have b:Hid (cN (b9 s j)=runeTo (b9 s j) 1 (1-1)):=by show cN (b9 s j)=_;unfold cN;rw[d.out]
      generalize runeTo (b9 s j) 1 (1-1)=X at c b;have F:(X:Int)<67108864:=by omega
      by_cases o:X<65536
      ·have z:Hid ([X]=dx (cN (b9 s j))):=by show [X]=_;rw[b.out,dx,if_pos o]
       obtain⟨Y,f⟩:∃Y:Int,(X:Int)=Y:=⟨_,rfl⟩;rw[f];have y0:0<=Y:=by omega
       have y1:Y<65536:=by omega
       have q:Hid _:=f;clear f o c F b;go_wp2_with (refine ir rfl (.tmp 45) (.tmp 47) 32 rfl 3 L KT I.out H M J w.heap.size _ a.length (a.map iV) (.int .i64 Y) rfl wr rfl S.out G (by have:=p.out;omega) rfl ?_;intro U y l g;have A:Hid _:=l;have B:Hid _:=g;clear l g)
       go_roundw
       case rel=>exact mR.next C p.out O.out (by rw[d.out];go_num) (by rw[d.out];omega) z.out (by show y.ownsRow _ _ _ _ (a.length+1) (a.map iV++[.int .i64 (X:Int)]);rw[q.out];exact A.out) (Q.out.trans B.out)
       case measure=>simp[intOf];omega
      ·exfalso;clear b;simp at c;omega
   ·have x:fb (b9 s j)=2:=by unfold fb;rw[n];rfl
    have ad:j+2<=s.size:=by omega
    have t:∀w,Calls prog 80 #[.string s,.int .i64 (j:Int)] w fun e P=>e=.returned (.int .i64 2)/\P=w:=fun w=>by have:=gZ s j w C (by omega);rw[n]at this;exact this
    clear n T;have HG:Hid (∀k,(b9 s j).getD k 0=if h:j+k<s.size then s[j+k]else(b9 s j).getD k 0):=fun k=>by split;exact eZ s j k (by assumption);rfl
    have d:Hid _:=x;clear x;have c0:(s[j].toNat:Int)<256:=by have:=s[j].toNat_lt;omega
    go_wp2_with fail
    refine(t _).mono ?_;rintro e K ⟨rfl,u⟩;rw[u];clear u K t;go_wp2_with fail
    go_loop [6,7] (fun r k=>∃m:Nat,1<=m/\m<=2/\k=.int .i64 (m:Int)/\r=.int .i64 (runeTo (b9 s j) 2 (m-1):Nat)) (fun _ k=>2-(intOf k).toNat)
    case atStart=>
     refine⟨1,by omega,by omega,rfl,?_⟩;have:=eZ s j 0 (by omega);simp only[L9,runeTo,this];rfl
    case round=>
     obtain⟨m,ae,ac,rfl,rfl⟩:=hrel;by_cases hm:m<2
     ·have c:=gp (b9 s j) 2 (m-1)
      have N:runeTo (b9 s j) 2 m=64*runeTo (b9 s j) 2 (m-1)+s[j+m].toNat%64:=by
       obtain⟨E,rfl⟩:∃E,m=E+1:=⟨m-1,by omega⟩;rw[runeTo,eZ s j (E+1) (by omega)];rfl
      have R:runeTo (b9 s j) 2 (m-1)<67108864:=by
       have:64^(m-1)<=64^3:=K7 (by omega) (by omega);omega
      clear c;have HN:Hid _:=N;clear N;have aa:∃X,runeTo (b9 s j) 2 (m-1)=X:=⟨_,rfl⟩;obtain⟨X,D⟩:=aa;rw[D]at R ⊢;have V:Hid _:=D;clear D;have ah:(0:Int)<=(j:Int)+m:=by omega
      have ai:(j:Int)+m<(s.size:Int):=by omega
      have ht:((j:Int)+(m:Int)).toNat=j+m:=by omega
      have hx:j+m<s.size:=by omega
      go_wp2_with fail
      go_round
      case rel=>exact⟨m+1,by omega,by omega,by go_num,by rw[L5,HN.out,V.out];exact KV (Value.int .i64) (rY X s[j+m].toNat R s[j+m].toNat_lt)⟩
      case measure=>simp[intOf];omega
     ·obtain rfl:m=2:=by omega
      have c:=gp (b9 s j) 2 (2-1);have b:Hid (cN (b9 s j)=runeTo (b9 s j) 2 (2-1)):=by show cN (b9 s j)=_;unfold cN;rw[d.out]
      generalize runeTo (b9 s j) 2 (2-1)=X at c b;have F:(X:Int)<67108864:=by omega
      by_cases o:X<65536
      ·have z:Hid ([X]=dx (cN (b9 s j))):=by show [X]=_;rw[b.out,dx,if_pos o]
       obtain⟨Y,f⟩:∃Y:Int,(X:Int)=Y:=⟨_,rfl⟩;rw[f];have y0:0<=Y:=by omega
       have y1:Y<65536:=by omega
       have q:Hid _:=f;clear f o c F b;go_wp2_with (refine ir rfl (.tmp 45) (.tmp 47) 32 rfl 3 L KT I.out H M J w.heap.size _ a.length (a.map iV) (.int .i64 Y) rfl wr rfl S.out G (by have:=p.out;omega) rfl ?_;intro U y l g;have A:Hid _:=l;have B:Hid _:=g;clear l g)
       go_roundw
       case rel=>exact mR.next C p.out O.out (by rw[d.out];go_num) (by rw[d.out];omega) z.out (by show y.ownsRow _ _ _ _ (a.length+1) (a.map iV++[.int .i64 (X:Int)]);rw[q.out];exact A.out) (Q.out.trans B.out)
       case measure=>simp[intOf];omega
      ·exfalso;clear b;simp at c;omega
   ·have x:fb (b9 s j)=3:=by unfold fb;rw[n];rfl
    have ad:j+3<=s.size:=by omega
    have t:∀w,Calls prog 80 #[.string s,.int .i64 (j:Int)] w fun e P=>e=.returned (.int .i64 3)/\P=w:=fun w=>by have:=gZ s j w C (by omega);rw[n]at this;exact this
    clear n T;have HG:Hid (∀k,(b9 s j).getD k 0=if h:j+k<s.size then s[j+k]else(b9 s j).getD k 0):=fun k=>by split;exact eZ s j k (by assumption);rfl
    have d:Hid _:=x;clear x;have c0:(s[j].toNat:Int)<256:=by have:=s[j].toNat_lt;omega
    go_wp2_with fail
    refine(t _).mono ?_;rintro e K ⟨rfl,u⟩;rw[u];clear u K t;go_wp2_with fail
    go_loop [6,7] (fun r k=>∃m:Nat,1<=m/\m<=3/\k=.int .i64 (m:Int)/\r=.int .i64 (runeTo (b9 s j) 3 (m-1):Nat)) (fun _ k=>3-(intOf k).toNat)
    case atStart=>
     refine⟨1,by omega,by omega,rfl,?_⟩;have:=eZ s j 0 (by omega);simp only[L9,runeTo,this];rfl
    case round=>
     obtain⟨m,ae,ac,rfl,rfl⟩:=hrel;by_cases hm:m<3
     ·have c:=gp (b9 s j) 3 (m-1)
      have N:runeTo (b9 s j) 3 m=64*runeTo (b9 s j) 3 (m-1)+s[j+m].toNat%64:=by
       obtain⟨E,rfl⟩:∃E,m=E+1:=⟨m-1,by omega⟩;rw[runeTo,eZ s j (E+1) (by omega)];rfl
      have R:runeTo (b9 s j) 3 (m-1)<67108864:=by
       have:64^(m-1)<=64^3:=K7 (by omega) (by omega);omega
      clear c;have HN:Hid _:=N;clear N;have aa:∃X,runeTo (b9 s j) 3 (m-1)=X:=⟨_,rfl⟩;obtain⟨X,D⟩:=aa;rw[D]at R ⊢;have V:Hid _:=D;clear D;have ah:(0:Int)<=(j:Int)+m:=by omega
      have ai:(j:Int)+m<(s.size:Int):=by omega
      have ht:((j:Int)+(m:Int)).toNat=j+m:=by omega
      have hx:j+m<s.size:=by omega
      go_wp2_with fail
      go_round
      case rel=>exact⟨m+1,by omega,by omega,by go_num,by rw[L5,HN.out,V.out];exact KV (Value.int .i64) (rY X s[j+m].toNat R s[j+m].toNat_lt)⟩
      case measure=>simp[intOf];omega
     ·obtain rfl:m=3:=by omega
      have c:=gp (b9 s j) 3 (3-1);have b:Hid (cN (b9 s j)=runeTo (b9 s j) 3 (3-1)):=by show cN (b9 s j)=_;unfold cN;rw[d.out]
      generalize runeTo (b9 s j) 3 (3-1)=X at c b;have F:(X:Int)<67108864:=by omega
      by_cases o:X<65536
      ·have z:Hid ([X]=dx (cN (b9 s j))):=by show [X]=_;rw[b.out,dx,if_pos o]
       obtain⟨Y,f⟩:∃Y:Int,(X:Int)=Y:=⟨_,rfl⟩;rw[f];have y0:0<=Y:=by omega
       have y1:Y<65536:=by omega
       have q:Hid _:=f;clear f o c F b;go_wp2_with (refine ir rfl (.tmp 45) (.tmp 47) 32 rfl 3 L KT I.out H M J w.heap.size _ a.length (a.map iV) (.int .i64 Y) rfl wr rfl S.out G (by have:=p.out;omega) rfl ?_;intro U y l g;have A:Hid _:=l;have B:Hid _:=g;clear l g)
       go_roundw
       case rel=>exact mR.next C p.out O.out (by rw[d.out];go_num) (by rw[d.out];omega) z.out (by show y.ownsRow _ _ _ _ (a.length+1) (a.map iV++[.int .i64 (X:Int)]);rw[q.out];exact A.out) (Q.out.trans B.out)
       case measure=>simp[intOf];omega
      ·have z:Hid ([55296+(X-65536)/1024,56320+(X-65536)%1024]=dx (cN (b9 s j))):=by show _=_;rw[b.out,dx,if_neg o]
       obtain⟨Y,f⟩:∃Y:Nat,X=65536+Y:=⟨X-65536,by omega⟩;obtain⟨Z,hZ⟩:∃Z:Int,(X:Int)=Z:=⟨_,rfl⟩;rw[hZ];have z0:65536<=Z:=by omega
       have z1:Z<67108864:=by omega
       have zd:decide (Z<65536)=false:=by simp;omega
       have q:Hid ((55296+(X-65536)/1024:Nat)=55296+(Z-65536)/1024/\(56320+(X-65536)%1024:Nat)=56320+(Z-65536)%1024):=by show _/\_;omega
       clear f o c F b hZ;go_wp2_with (first|(refine ir rfl (.tmp 49) (.tmp 54) 32 rfl 3 L KT I.out H M J w.heap.size _ a.length (a.map iV) (.int .i64 (55296+(Z-65536)/1024)) rfl wr rfl S.out G (by have:=p.out;omega) rfl ?_;intro U y l g;have af:=Ki G g.size;have A:Hid _:=l;have B:Hid _:=g;clear l g)|(refine ir rfl (.tmp 56) (.tmp 61) 32 rfl 3 L KT I.out H M J w.heap.size _ (a.length+1) _ (.int .i64 (56320+(Z-65536)%1024)) rfl y rfl A.out af (by have:=p.out;omega) rfl ?_;intro v6 w6 W ab;have W6:Hid _:=W;have B6:Hid _:=ab;clear W ab))
       go_roundw
       case rel=>exact mR.next C p.out O.out (by rw[d.out];go_num) (by rw[d.out];omega) z.out (by
        show w6.ownsRow _ _ _ _ (a.length+2) (a.map iV++[.int .i64 ((55296+(X-65536)/1024:Nat):Int),.int .i64 ((56320+(X-65536)%1024:Nat):Int)])
        rw[q.out.1,q.out.2];have:=W6.out;rw[J1]at this;exact this) (Q.out.trans (B.out.trans B6.out))
       case measure=>simp[intOf];omega
   ·have x:fb (b9 s j)=4:=by unfold fb;rw[n];rfl
    have ad:j+4<=s.size:=by omega
    have t:∀w,Calls prog 80 #[.string s,.int .i64 (j:Int)] w fun e P=>e=.returned (.int .i64 4)/\P=w:=fun w=>by have:=gZ s j w C (by omega);rw[n]at this;exact this
    clear n T
    have d:Hid _:=x;clear x;have c0:(s[j].toNat:Int)<256:=by have:=s[j].toNat_lt;omega
    go_wp2_with fail
    refine(t _).mono ?_;rintro e K ⟨rfl,u⟩;rw[u];clear u K t;go_wp2_with fail
    go_loop [6,7] (fun r k=>∃m:Nat,1<=m/\m<=4/\k=.int .i64 (m:Int)/\r=.int .i64 (runeTo (b9 s j) 4 (m-1):Nat)) (fun _ k=>4-(intOf k).toNat)
    case atStart=>
     refine⟨1,by omega,by omega,rfl,?_⟩;have:=eZ s j 0 (by omega);simp only[L9,runeTo,this];rfl
    case round=>
     obtain⟨m,ae,ac,rfl,rfl⟩:=hrel;by_cases hm:m<4
     ·have c:=gp (b9 s j) 4 (m-1)
      have N:runeTo (b9 s j) 4 m=64*runeTo (b9 s j) 4 (m-1)+s[j+m].toNat%64:=by
       obtain⟨E,rfl⟩:∃E,m=E+1:=⟨m-1,by omega⟩;rw[runeTo,eZ s j (E+1) (by omega)];rfl
      have R:runeTo (b9 s j) 4 (m-1)<67108864:=by
       have:64^(m-1)<=64^3:=K7 (by omega) (by omega);omega
      clear c;have HN:Hid _:=N;clear N;have aa:∃X,runeTo (b9 s j) 4 (m-1)=X:=⟨_,rfl⟩;obtain⟨X,D⟩:=aa;rw[D]at R ⊢;have V:Hid _:=D;clear D
      go_wp2_with fail
      go_round
      case rel=>exact⟨m+1,by omega,by omega,by go_num,by rw[L5,HN.out,V.out];exact KV (Value.int .i64) (rY X s[j+m].toNat R s[j+m].toNat_lt)⟩
      case measure=>simp[intOf];omega
     ·obtain rfl:m=4:=by omega
      have c:=gp (b9 s j) 4 (4-1);have b:Hid (cN (b9 s j)=runeTo (b9 s j) 4 (4-1)):=by show cN (b9 s j)=_;unfold cN;rw[d.out]
      generalize runeTo (b9 s j) 4 (4-1)=X at c b;have F:(X:Int)<67108864:=by omega
      by_cases o:X<65536
      ·have z:Hid ([X]=dx (cN (b9 s j))):=by show [X]=_;rw[b.out,dx,if_pos o]
       obtain⟨Y,f⟩:∃Y:Int,(X:Int)=Y:=⟨_,rfl⟩;rw[f]
       have y1:Y<65536:=by omega
       have q:Hid _:=f;clear f o c F b;go_wp2_with (refine ir rfl (.tmp 45) (.tmp 47) 32 rfl 3 L KT I.out H M J w.heap.size _ a.length (a.map iV) (.int .i64 Y) rfl wr rfl S.out G (by have:=p.out;omega) rfl ?_;intro U y l g;have A:Hid _:=l;have B:Hid _:=g;clear l g)
       go_roundw
       case rel=>exact mR.next C p.out O.out (by rw[d.out];go_num) (by rw[d.out];omega) z.out (by show y.ownsRow _ _ _ _ (a.length+1) (a.map iV++[.int .i64 (X:Int)]);rw[q.out];exact A.out) (Q.out.trans B.out)
       case measure=>simp[intOf];omega
      ·have z:Hid ([55296+(X-65536)/1024,56320+(X-65536)%1024]=dx (cN (b9 s j))):=by show _=_;rw[b.out,dx,if_neg o]
       obtain⟨Y,f⟩:∃Y:Nat,X=65536+Y:=⟨X-65536,by omega⟩;obtain⟨Z,hZ⟩:∃Z:Int,(X:Int)=Z:=⟨_,rfl⟩;rw[hZ];have z0:65536<=Z:=by omega
       have z1:Z<67108864:=by omega
       have q:Hid ((55296+(X-65536)/1024:Nat)=55296+(Z-65536)/1024/\(56320+(X-65536)%1024:Nat)=56320+(Z-65536)%1024):=by show _/\_;omega
       clear f o c F b hZ;go_wp2_with (first|(refine ir rfl (.tmp 49) (.tmp 54) 32 rfl 3 L KT I.out H M J w.heap.size _ a.length (a.map iV) (.int .i64 (55296+(Z-65536)/1024)) rfl wr rfl S.out G (by have:=p.out;omega) rfl ?_;intro U y l g;have af:=Ki G g.size;have A:Hid _:=l;have B:Hid _:=g;clear l g)|(refine ir rfl (.tmp 56) (.tmp 61) 32 rfl 3 L KT I.out H M J w.heap.size _ (a.length+1) _ (.int .i64 (56320+(Z-65536)%1024)) rfl y rfl A.out af (by have:=p.out;omega) rfl ?_;intro v6 w6 W ab;have W6:Hid _:=W;have B6:Hid _:=ab;clear W ab))
       go_roundw
       case rel=>exact mR.next C p.out O.out (by rw[d.out];go_num) (by rw[d.out];omega) z.out (by
        show w6.ownsRow _ _ _ _ (a.length+2) (a.map iV++[.int .i64 ((55296+(X-65536)/1024:Nat):Int),.int .i64 ((56320+(X-65536)%1024:Nat):Int)])
        rw[q.out.1,q.out.2];have:=W6.out;rw[J1]at this;exact this) (Q.out.trans (B.out.trans B6.out))
       case measure=>simp[intOf];omega
  ·obtain rfl:j=s.size:=by omega
   go_wp2_with fail
   go_ret;have e:unitsL s.data.toList=a:=by have:=O.out;rw[cU s s.size (JQ _),jc,KB]at this;exact this
   rw[e];exact⟨_,rfl,S.out,Q.out⟩
theorem Fg(a b:dv)(w:Wd)(N:a.size<=1000000000)(m:b.size<=1000000000):Calls prog 116 #[.string a,.string b] w fun e R=>e=.returned (.bool (ef a.data.toList b.data.toList))/\Below w.heap.size w R:=by
 have ac:(unitsL b.data.toList).length<=2000000000:=by have:=jW b.data.toList;simp at this;omega
 unfold ef;have H:=fun w=>zm a w N
 have D:=fun w=>zm b w m
 generalize unitsL a.data.toList=c at *;generalize unitsL b.data.toList=d at *;clear N m;go_enter func116,ntmps116;go_wp2_with fail
 refine(H _).mono ?_;rintro e W ⟨x,rfl,h,A⟩;have o:Hid (fM W x c):=fM.of h;have F:Hid _:=A;have hz:=A.size;clear h A H;go_wp2_with fail
 refine(D _).mono ?_;rintro e w2 ⟨y,rfl,l,f⟩;have n:Hid _:=fM.of l;have O:Hid _:=o.out.keep fun g j u T=>dy f T
 have P:Hid _:=F.out.trans ⟨f.os,f.tape,f.output,f.size,fun k hk=>f.block k (by omega)⟩;clear l f D o F;go_wp2_with fail
 go_loopw [7] (fun i wr=>∃j:Nat,j<=c.length/\j<=d.length/\i=.int .i64 (j:Int)/\c7 c d=c7 (c.drop j) (d.drop j)/\fM wr x c/\fM wr y d/\Below w.heap.size w wr) (fun i _=>c.length-(intOf i).toNat)
 case atStart=>exact⟨0,by omega,by omega,rfl,rfl,O.out,n.out,P.out⟩
 case round=>
  clear O n P;obtain⟨j,M,E,rfl,L,h,l,m⟩:=hrel;have r:Hid _:=L;have o:Hid (fM wr x c):=h;have n:Hid (fM wr y d):=l;have t:Hid (Below w.heap.size w wr):=m;obtain⟨ad,ae,rfl,I⟩:=h;obtain⟨ab,aa,rfl,J⟩:=l;clear L m;by_cases U:j<c.length/\j<d.length
  ·obtain⟨G,Q⟩:=U
   have K:(j:Int)<(c.length:Int):=by omega
   have V:(j:Int)<(d.length:Int):=by omega
   obtain⟨p,z⟩:∃p,c[j]?=some p:=⟨_,JF G⟩;obtain⟨q,C⟩:∃q,d[j]?=some q:=⟨_,JF Q⟩;obtain⟨g1,rfl,Z⟩:=I j p z;obtain⟨g2,rfl,d2⟩:=J j q C;have s:Hid (c[j]?=some p/\d[j]?=some q):=⟨z,C⟩;clear I J z C;by_cases B:p=q
   ·subst B
    go_wp2_with fail
    go_quiet (fail);go_wp2_with fail
    go_roundw
    case rel=>exact⟨j+1,by omega,by omega,by go_num,r.out.trans (ul c d j p s.out.1 s.out.2),o.out.drewN nq,n.out.drewN nq,em t.out nq⟩
    case measure=>simp[intOf];omega
   ·have Y:((p:Int)==(q:Int))=false:=by simp;omega
    have S:Hid _:=B;clear B;go_wp2_with fail
    go_quiet (fail);go_wp2_with fail
    go_quiet (fail);go_wp2;go_ret;refine⟨?_,em (em t.out _) _⟩;rw[r.out,x6 c d j p q s.out.1 s.out.2 S.out];go_num
  ·by_cases G:j<c.length
   ·have K:(j:Int)<(c.length:Int):=by omega
    have v:Hid (c7 c d=decide (c.length<d.length)):=by show _=_;rw[r.out,pC c d j M E (by omega)]
    go_wp2;go_ret;exact⟨by rw[v.out];rfl,t.out⟩
   ·have K:decide ((j:Int)<(c.length:Int))=false:=by simp;omega
    have v:Hid (c7 c d=decide (c.length<d.length)):=by show _=_;rw[r.out,pC c d j M E (by omega)]
    go_wp2;go_ret;exact⟨by rw[v.out];rfl,t.out⟩
end Go.Proofs.YtihboehpeehlmaaGreatDoor
