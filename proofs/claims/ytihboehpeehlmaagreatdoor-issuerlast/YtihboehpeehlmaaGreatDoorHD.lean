import Derived.Test.YtihboehpeehlmaaGreatDoorHA
set_option maxHeartbeats 1000000
set_option maxRecDepth 4000
set_option linter.unusedVariables false
namespace Go.Proofs.YtihboehpeehlmaaGreatDoor.Dg
open Tryz Go.RowKit
def vb:Array Value:=(uH.map fun k=>Value.int .i64 (eS (ex k))).toArray
def tj:Array Value:=(uq.map fun k=>Value.int .i64 (eS k)).toArray
def nG:Array Value:= #[.int .i64 7,.int .i64 18,.int .i64 3,.int .i64 17,.int .i64 19,.int .i64 10,.int .i64 6,.int .i64 11,.int .i64 25,.int .i64 2,.int .i64 13,.int .i64 22]
def jg:Array Value:= #[.int .i64 1,.int .i64 8,.int .i64 7,.int .i64 19,.int .i64 61,.int .i64 6,.int .i64 14,.int .i64 18,.int .i64 41,.int .i64 28,.int .i64 34,.int .i64 39]
def j8:Array Value:= #[.int .i64 0,.int .i64 0,.slice none 0 0,.slice none 0 0,.slice none 0 0]
def fI(bits n b hg kb:Nat):Array Value:= #[.int .i64 bits,.int .i64 n,.slice (some ⟨b,0,none⟩) 12 12,.slice (some ⟨hg,0,none⟩) 8 8,.slice (some ⟨kb,0,none⟩) n n]
theorem mb(w:Wd):Sem.run prog (zeroValue 166) w=.ok (.agg j8) w:=by kernel_rfl
theorem fl(x n b a kb:Nat):(prog.info? 166).map (·.size)=some (fI x n b a kb).size:=by
 rw[show(fI x n b a kb).size=5 from rfl];kernel_rfl
theorem jQ(x n b a kb:Nat):(fI x n b a kb).all (·.oneCell')=true:=by simp[fI,Value.oneCell']
theorem up{w w':Wd}{g:Nat}{r:Obj}(a:Below w.heap.size w w')(h:w.heap[g]?=some r):w'.heap[g]?=some r:=(a.block g (go.1 h).1).trans h
structure mq (w:Wd) (b hg kb:Nat) (s:St 32):Prop where
 by_:w.heap[b]?=some (.cells nG 3 (0,0))
 h:w.heap[hg]?=some (.cells (d7 s) 3 (0,0))
 k:w.heap[kb]?=some (.cells vb 3 (0,0))
structure gX (w:Wd) (b hg kb:Nat) (s:St 64):Prop where
 by_:w.heap[b]?=some (.cells jg 3 (0,0))
 h:w.heap[hg]?=some (.cells (dK s) 3 (0,0))
 k:w.heap[kb]?=some (.cells tj 3 (0,0))
theorem iB{w:Wd}{i j:Nat}{c d:Array Value}{f b:Nat×Nat}(e:w.heap[i]?=some (.cells c 166 f))(a:w.heap[j]?=some (.cells d 3 b)):j≠i:=by
 rintro rfl;rw[e]at a;injection a with a;injection a with _ a _;revert a;decide
theorem uY{w:Wd}{z b e kb:Nat}{s:St 32}{c d:Array Value}{f:Nat×Nat}(h:mq w b e kb s)(a:w.heap[z]?=some (.cells c 166 f)):mq (w.setRow z d) b e kb s:=
 ⟨by rw[Kg _ _ _ _ (iB a h.by_)];exact h.by_,by rw[Kg _ _ _ _ (iB a h.h)];exact h.h,by rw[Kg _ _ _ _ (iB a h.k)];exact h.k⟩
theorem pU{w:Wd}{z b e kb:Nat}{s:St 64}{c d:Array Value}{f:Nat×Nat}(h:gX w b e kb s)(a:w.heap[z]?=some (.cells c 166 f)):gX (w.setRow z d) b e kb s:=
 ⟨by rw[Kg _ _ _ _ (iB a h.by_)];exact h.by_,by rw[Kg _ _ _ _ (iB a h.h)];exact h.h,by rw[Kg _ _ _ _ (iB a h.k)];exact h.k⟩
theorem xT{w w':Wd}{b c kb:Nat}{s:St 64}(h:gX w b c kb s)(a:Below w.heap.size w w'):gX w' b c kb s:=⟨up a h.by_,up a h.h,up a h.k⟩
theorem qc{w:Wd}{z o b d kb:Nat}{s:St 64}{c:Array Value}{v:Va}{e:Nat×Nat}(h:gX w b d kb s)(a:w.heap[z]?=some (.cells c 166 e)):gX (w.setCell ⟨z,o,none⟩ v) b d kb s:=
 ⟨by rw[JX _ _ _ _ (iB a h.by_)];exact h.by_,by rw[JX _ _ _ _ (iB a h.h)];exact h.h,by rw[JX _ _ _ _ (iB a h.k)];exact h.k⟩
theorem Fi(w:Wd):Calls prog 143 #[] w fun e a=>e=.returned (.slice (some ⟨w.heap.size,0,none⟩) 8 8)/\a=w.alloc (.cells (d7 lq) 3):=by
 go_enter func143,ntmps143;go_wp2_with (first|(refine fV rfl 32 8 _ rfl (d7 lq) 3 ?hr ?_;(case hr=>kernel_rfl)))
 go_ret;exact⟨rfl,rfl⟩
theorem zU(w:Wd):Calls prog 145 #[] w fun e a=>e=.returned (.slice (some ⟨w.heap.size,0,none⟩) 8 8)/\a=w.alloc (.cells (dK j5) 3):=by
 go_enter func145,ntmps145;go_wp2_with (first|(refine fV rfl 32 8 _ rfl (dK j5) 3 ?hr ?_;(case hr=>kernel_rfl)))
 go_ret;exact⟨rfl,rfl⟩
theorem F2(w:Wd):Calls prog 147 #[] w fun e a=>e=.returned (.slice (some ⟨w.heap.size,0,none⟩) 8 8)/\a=w.alloc (.cells (dK ii) 3):=by
 go_enter func147,ntmps147;go_wp2_with (first|(refine fV rfl 32 8 _ rfl (dK ii) 3 ?hr ?_;(case hr=>kernel_rfl)))
 go_ret;exact⟨rfl,rfl⟩
theorem Im(w:Wd):Calls prog 144 #[] w fun e a=>e=.returned (.slice (some ⟨w.heap.size,0,none⟩) 64 64)/\a=w.alloc (.cells vb 3):=by
 go_enter func144,ntmps144;go_wp2_with (first|(refine fV rfl 32 64 _ rfl vb 3 ?hr ?_;(case hr=>kernel_rfl)))
 go_ret;exact⟨rfl,rfl⟩
theorem C1(w:Wd):Calls prog 146 #[] w fun e a=>e=.returned (.slice (some ⟨w.heap.size,0,none⟩) 80 80)/\a=w.alloc (.cells tj 3):=by
 go_enter func146,ntmps146;go_wp2_with (first|(refine fV rfl 32 80 _ rfl tj 3 ?hr ?_;(case hr=>kernel_rfl)))
 go_ret;exact⟨rfl,rfl⟩
theorem GB(w:Wd):Calls prog 117 #[.int .i64 256] w fun e x=>∃b d c,e=.returned (.agg (fI 32 64 b d c))/\mq x b d c lq/\Below w.heap.size w x:=by
 have N:=mb;go_enter func117,ntmps117;go_wp2_with (first|(refine fV rfl 32 12 _ rfl nG 3 ?hr ?_;(case hr=>kernel_rfl)))
 have p:=K2 w (.cells j8 166) (.cells nG 3);have q:=K1 w (.cells j8 166) (.cells nG 3);have h:Below w.heap.size w ((w.alloc (.cells j8 166)).alloc (.cells nG 3)):=cK (cK (cF w) _) _;generalize H:(w.alloc (.cells j8 166)).alloc (.cells nG 3)=f at p q h;clear H;refine(Fi f).mono ?_;rintro L a ⟨rfl,o⟩;have i:Below f.heap.size f a:=by rw[o];exact cK (cF _) _
 have m:a.heap[f.heap.size]?=some (.cells (d7 lq) 3 (0,0)):=by rw[o];exact JK _ _
 have D:=up i p;have s:=up i q;have z:=h.trans (i.mono h.size);generalize f.heap.size=d at m;clear o i p q h;have B:Hid _:=D;have F:Hid _:=s;have E:Hid _:=m;have k:Hid _:=z;clear D s m z f;go_wp2_with fail
 refine(Im a).mono ?_;rintro O y ⟨rfl,j⟩;have g:Below a.heap.size a y:=by rw[j];exact cK (cF _) _
 have n:y.heap[a.heap.size]?=some (.cells vb 3 (0,0)):=by rw[j];exact JK _ _
 have t:=up g B.out;have u:=up g F.out;have C:=up g E.out;have G:=k.out.trans (g.mono k.out.size);generalize a.heap.size=c at n;clear j g B F E k a;have r:Hid _:=t;have A:Hid _:=u;have K:Hid _:=C;have I:Hid _:=n;have J:Hid _:=G;clear t u C n G;obtain⟨b,l⟩:∃b,b=w.heap.size+1:=⟨_,rfl⟩;rw[<-l]at A
 rw[<-l];clear l;go_wp2_with (first|(refine im rfl 166 _ rfl (.agg (fI 32 64 b d c)) ?hr ?_;(case hr=>kernel_rfl))|(refine Kn rfl 166 _ _ rfl w.heap.size _ rfl rfl _ _ r.out (fl _ _ _ _ _) rfl (jQ _ _ _ _ _) ?_))
 refine Ka (v:=.agg (fI 32 64 b d c)) (Lb rfl _ _ w.heap.size _ _ _ _ rfl (J7 _ _ _ _ _ _ r.out) M8 rfl (fl _ _ _ _ _)) rfl ⟨b,d,c,rfl,uY ⟨A.out,K.out,I.out⟩ r.out,KU J.out (JQ _) _⟩
theorem FS(w:Wd):Calls prog 117 #[.int .i64 512] w fun e y=>∃b d c,e=.returned (.agg (fI 64 80 b d c))/\gX y b d c j5/\Below w.heap.size w y:=by
 have N:=mb;go_enter func117,ntmps117;go_wp2_with (first|(refine fV rfl 32 12 _ rfl jg 3 ?hr ?_;(case hr=>kernel_rfl)))
 have q:=K2 w (.cells j8 166) (.cells jg 3);have r:=K1 w (.cells j8 166) (.cells jg 3);have i:Below w.heap.size w ((w.alloc (.cells j8 166)).alloc (.cells jg 3)):=cK (cK (cF w) _) _;generalize H:(w.alloc (.cells j8 166)).alloc (.cells jg 3)=f at q r i;clear H;refine(zU f).mono ?_;rintro L a ⟨rfl,p⟩;have j:Below f.heap.size f a:=by rw[p];exact cK (cF _) _
 have n:a.heap[f.heap.size]?=some (.cells (dK j5) 3 (0,0)):=by rw[p];exact JK _ _
 have D:=up j q;have t:=up j r;have z:=i.trans (j.mono i.size);generalize f.heap.size=d at n;clear p j q r i;have B:Hid _:=D;have F:Hid _:=t;have E:Hid _:=n;have l:Hid _:=z;clear D t n z f;go_wp2_with fail
 refine(C1 a).mono ?_;rintro O h ⟨rfl,k⟩;have g:Below a.heap.size a h:=by rw[k];exact cK (cF _) _
 have o:h.heap[a.heap.size]?=some (.cells tj 3 (0,0)):=by rw[k];exact JK _ _
 have u:=up g B.out;have x:=up g F.out;have C:=up g E.out;have G:=l.out.trans (g.mono l.out.size);generalize a.heap.size=c at o;clear k g B F E l a;have s:Hid _:=u;have A:Hid _:=x;have K:Hid _:=C;have I:Hid _:=o;have J:Hid _:=G;clear u x C o G;obtain⟨b,m⟩:∃b,b=w.heap.size+1:=⟨_,rfl⟩;rw[<-m]at A
 rw[<-m];clear m;go_wp2_with (first|(refine im rfl 166 _ rfl (.agg (fI 64 80 b d c)) ?hr ?_;(case hr=>kernel_rfl))|(refine Kn rfl 166 (.tmp 3) (.tmp 13) rfl h.heap.size _ rfl rfl _ _ (JK _ _) (fl _ _ _ _ _) rfl (jQ _ _ _ _ _) ?_;rw[World.setRow_alloc_new])|(refine Ls rfl 166 (.tmp 3) rfl h.heap.size rfl _ _ _ _ (JK _ _) M8 rfl (fl 64 80 b d c) ?_)|(refine Kn rfl 166 (.tmp 2) (.tmp 18) rfl w.heap.size _ rfl rfl _ _ (up (cK (cF _) _) s.out) (fl _ _ _ _ _) rfl (jQ _ _ _ _ _) ?_))
 refine Ka (v:=.agg (fI 64 80 b d c)) (Lb rfl _ _ w.heap.size _ _ _ _ rfl (J7 _ _ _ _ _ _ (up (cK (cF _) _) s.out)) M8 rfl (fl _ _ _ _ _)) rfl ⟨b,d,c,rfl,pU (xT ⟨A.out,K.out,I.out⟩ (cK (cF _) _)) (up (cK (cF _) _) s.out),KU (cK J.out _) (JQ _) _⟩
theorem Gz(w:Wd):Calls prog 117 #[.int .i64 384] w fun e Q=>∃b d a,e=.returned (.agg (fI 64 80 b d a))/\gX Q b d a ii/\Below w.heap.size w Q:=by
 have hz:=mb;go_enter func117,ntmps117;go_wp2_with (first|(refine fV rfl 32 12 _ rfl jg 3 ?hr ?_;(case hr=>kernel_rfl)))
 have C:=K2 w (.cells j8 166) (.cells jg 3);have E:=K1 w (.cells j8 166) (.cells jg 3);have p:Below w.heap.size w ((w.alloc (.cells j8 166)).alloc (.cells jg 3)):=cK (cK (cF w) _) _;generalize y:(w.alloc (.cells j8 166)).alloc (.cells jg 3)=k at C E p;clear y;refine(zU k).mono ?_;rintro e1 f ⟨rfl,A⟩;have q:Below k.heap.size k f:=by rw[A];exact cK (cF _) _
 have x:f.heap[k.heap.size]?=some (.cells (dK j5) 3 (0,0)):=by rw[A];exact JK _ _
 have W:=up q C;have L:=up q E;have R:=p.trans (q.mono p.size);generalize k.heap.size=d at x;clear A q C E p;have T:Hid _:=W;have Y:Hid _:=L;have X:Hid _:=x;have t:Hid _:=R;clear W L x R k;go_wp2_with fail
 refine(C1 f).mono ?_;rintro e2 c ⟨rfl,s⟩;have n:Below f.heap.size f c:=by rw[s];exact cK (cF _) _
 have z:c.heap[f.heap.size]?=some (.cells tj 3 (0,0)):=by rw[s];exact JK _ _
 have M:=up n T.out;have O:=up n Y.out;have U:=up n X.out;have Z:=t.out.trans (n.mono t.out.size);generalize f.heap.size=a at z;clear s n T Y X t f;have G:Hid _:=M;have F:Hid _:=O;have X2:Hid _:=U;have S:Hid _:=z;have H:Hid _:=Z;clear M O U z Z;obtain⟨b,u⟩:∃b,b=w.heap.size+1:=⟨_,rfl⟩;rw[<-u]at F;have ab:w.heap.size≠b:=by omega
 rw[<-u];clear u;go_wp2_with (first|(refine im rfl 166 _ rfl (.agg (fI 64 80 b d a)) ?hr ?_;(case hr=>kernel_rfl))|(refine Kn rfl 166 (.tmp 3) (.tmp 13) rfl c.heap.size _ rfl rfl _ _ (JK _ _) (fl _ _ _ _ _) rfl (jQ _ _ _ _ _) ?_;rw[World.setRow_alloc_new]))
 have I:=JK c (.cells (fI 64 80 b d a) 166);have h:Below c.heap.size c (c.alloc (.cells (fI 64 80 b d a) 166)):=cK (cF _) _;generalize y:c.alloc (.cells (fI 64 80 b d a) 166)=j at I h;clear y;refine(F2 j).mono ?_;rintro e6 i ⟨rfl,J⟩;have l:Below j.heap.size j i:=by rw[J];exact cK (cF _) _
 have V:i.heap[j.heap.size]?=some (.cells (dK ii) 3 (0,0)):=by rw[J];exact JK _ _
 have D:gX i b j.heap.size a ii:=⟨up l (up h F.out),V,up l (up h S.out)⟩;have h0:=up l (up h G.out);have o:=up l I;have aa:=H.out.trans ((h.trans (l.mono h.size)).mono H.out.size);have B:=(go.1 G.out).1;generalize j.heap.size=m at D;generalize c.heap.size=g at B o;have HR:Hid _:=D;have H0:Hid _:=h0;have K:Hid _:=o;have ac:Hid _:=aa;have c3:i.cell? ⟨g,3,none⟩=some (.slice (some ⟨d,0,none⟩) 8 8):=(JE _ _ _ _ _ _ o).trans rfl;have cf:i.frozen? ⟨g,3,none⟩=false:=KO _ _ _ _ _ o;clear J l V D h0 o aa I h G F X2 S H ab;have P:(i.setCell ⟨g,3,none⟩ (.slice (some ⟨m,0,none⟩) 8 8)).heap[g]?=some (.cells (fI 64 80 b m a) 166 (0,0)):=(J5 _ _ _ _ _ _ K.out).trans rfl;have N:(i.setCell ⟨g,3,none⟩ (.slice (some ⟨m,0,none⟩) 8 8)).heap[w.heap.size]?=some (.cells j8 166 (0,0)):=by rw[JX _ _ _ _ (Nat.ne_of_lt B)];exact H0.out
 have ad:Hid _:=P;have r:Hid _:=N;clear P N;go_wp2_with (first|(refine Ls rfl 166 (.tmp 3) rfl g rfl _ _ _ _ ad.out M8 rfl (fl 64 80 b m a) ?_)|(refine Kn rfl 166 (.tmp 2) (.tmp 18) rfl w.heap.size _ rfl rfl _ _ r.out (fl _ _ _ _ _) rfl (jQ _ _ _ _ _) ?_))
 refine Ka (v:=.agg (fI 64 80 b m a)) (Lb rfl _ _ w.heap.size _ _ _ _ rfl (J7 _ _ _ _ _ _ r.out) M8 rfl (fl _ _ _ _ _)) rfl ⟨b,m,a,rfl,pU (qc HR.out K.out) r.out,KU (ac.out.setCell (Nat.le_of_lt B) _) (JQ _) _⟩
theorem Bg(x:BitVec 64)(k:Nat)(h:k<=56):eS x/2^k%256=((fE (x>>>k)).toNat:Int):=by
 rw[qB];have c:(x.sshiftRight k).setWidth 8=(x>>>k).setWidth 8:=by
  apply LV;intro i d;simp only[MA,MP,Mk];have a:k+i<64:=by omega
  have e:i<64:=by omega
  simp[a,e,d]
 have b:∀y:BitVec 64,eS y%256=(((y.setWidth 8).toNat:Nat):Int):=by
  intro y;unfold eS;rw[Ml,Ng];split<;>omega
 rw[b,c];unfold fE;simp
theorem GL(W:Wd)(c:UInt8):Sem.run prog (convert 115 9 (.slice (some ⟨W.heap.size,0,none⟩) 1 1)) (W.alloc (.cells #[.int .u8 (c.toNat:Int)] 5))=.ok (.string ⟨#[c]⟩) (W.alloc (.cells #[.int .u8 (c.toNat:Int)] 5)):=by
 refine run_convert_bytes_back _ 115 9 5 ⟨W.heap.size,0,none⟩ 1 [c] JU KY Kl ?_;intro j a;obtain rfl:j=0:=by simpa using a
 show(W.alloc _).cell? ⟨W.heap.size,0,none⟩=_
 rw[JE _ _ _ _ _ _ (JK _ _)];rfl
theorem tx(n:Nat)(x:BitVec 64)(m:Nat)(h:8<=n-1-m):fE (x>>>(8*(n-1-m)))=0:=by
 have e:x>>>(8*(n-1-m))=0:=by
  apply LP;rw[LS,MS];have a:2^64<=2^(8*(n-1-m)):=K7 (by omega) (by omega);exact Nat.div_eq_of_lt (by omega)
 rw[e];rfl
theorem wG(c:Nat)(x:BitVec 32)(k:Nat):dA c (ex x) k=dA c x k:=by
 induction k with
 | zero=>rfl
 | succ k ih=>
   have a:(ex x).toNat=x.toNat:=by unfold ex;rw[Ng];have:=x.isLt;omega
   have e:∀j:Nat,fE (ex x>>>j)=fE (x>>>j):=by
    intro j;unfold fE;rw[LS,LS,a]
   rw[dA,dA,ih,e]
theorem ec(l k:dj):(⟨l.toArray⟩++⟨k.toArray⟩:dv)=⟨(l++k).toArray⟩:=KF (by simp)
theorem mx(x:BitVec 64)(n:Nat)(l:n<=16)(w:Wd):Calls prog 120 #[.int .i64 (eS x),.int .i64 (n:Int)] w fun e d=>e=.returned (.string ⟨(dA n x n).toArray⟩)/\Below w.heap.size w d:=by
 go_enter func120,ntmps120;go_wp2
 go_loopw [5,6] (fun v i wr=>∃m:Nat,m<=n/\i=.int .i64 ((n:Int)-1-m)/\v=.string ⟨(dA n x m).toArray⟩/\Below w.heap.size w wr) (fun _ i _=>(intOf i+1).toNat)
 case atStart=>exact⟨0,by omega,by simp,rfl,cF _⟩
 case round=>
  obtain⟨m,k,rfl,rfl,c⟩:=hrel;by_cases f:m<n
  ·have h:(0:Int)<=(n:Int)-1-m:=by omega
   have j:(dA n x m).length+1<=9223372036854775807:=by rw[dm];omega
   have a:Hid _:=c;by_cases g:(n:Int)-1-m<8
   ·have b:=GL wr (fE (x>>>(8*(n-1-m))))
    rw[<-Bg x _ (by omega)]at b;go_wp2
    go_roundw
    case rel=>first|exact⟨m+1,by omega,by go_num,by rw[dA,<-ec],cK a.out _⟩|((repeat apply Exists.intro);refine⟨⟨m+1,by omega,by go_num,by rw[dA,<-ec],cK a.out _⟩,rfl⟩)
    case measure=>simp[intOf];omega
   ·have b:=GL wr 0
    rw[show(((0:UInt8).toNat:Nat):Int)=0 from rfl]at b;go_wp2
    go_roundw
    case rel=>first|exact⟨m+1,by omega,by go_num,by rw[dA,tx n x m (by omega),<-ec],cK a.out _⟩|((repeat apply Exists.intro);refine⟨⟨m+1,by omega,by go_num,by rw[dA,tx n x m (by omega),<-ec],cK a.out _⟩,rfl⟩)
    case measure=>simp[intOf];omega
  ·obtain rfl:m=n:=by omega
   go_wp2
   go_ret;exact⟨rfl,c⟩
theorem AA(n:Nat)(h:n<=140737488355328):eS (BitVec.ofNat 64 (n*8))=8*(n:Int):=by
 unfold eS;rw[Ml,Kw];split<;>omega
def gS(l:dj)(k:Nat):dj:=l++[128]++List.replicate k 0
theorem p6(l:dj)(k:Nat):(gS l k).length=l.length+1+k:=by simp[gS];omega
theorem sM(l:dj)(k:Nat):gS l (k+1)=gS l k++[0]:=by simp[gS,List.replicate_succ']
theorem zi(d:dv)(w:Wd)(j:d.size<=140737488355328):Calls prog 118 #[.string d,.int .i64 64] w fun e t=>e=.returned (.string ⟨(dw 64 8 d.data.toList d.size).toArray⟩)/\Below w.heap.size w t:=by
 have i:dz 64 8 d.size<64:=LB _ (by omega);have g:Hid _:=i;clear i;go_enter func118,ntmps118;go_wp2
 go_loopw [5] (fun v wr=>∃k:Nat,k<=dz 64 8 d.size/\v=.string ⟨(gS d.data.toList k).toArray⟩/\wr=w) (fun v _=>9223372036854775807-(match v with| .string s=>s.size|_=>0))
 case atStart=>exact⟨0,by omega,KV Value.string (KF (by simp[gS])),rfl⟩
 case round=>
  obtain⟨k,z,rfl,hw⟩:=hrel;subst hw;have m:(gS d.data.toList k).length=d.size+1+k:=p6 _ _;generalize h:gS d.data.toList k=L at m;have f:Hid _:=h;clear h;have x:L.length+1<=9223372036854775807:=by have:=g.out;omega
  by_cases q:k<dz 64 8 d.size
  ·have r:¬((L.length:Int)%64=56):=by
    have:=kO 64 8 d.size k (by omega) (by omega) (by omega) q;omega
   go_wp2
   have o:(⟨L.toArray⟩++⟨#[0]⟩:dv)=⟨(gS d.data.toList (k+1)).toArray⟩:=by rw[sM,f.out];exact ec L [0]
   refine⟨⟨k+1,by omega,by rw[o],trivial⟩,?_⟩;show 9223372036854775807-(⟨L.toArray⟩++⟨#[0]⟩:dv).size<9223372036854775807-(⟨L.toArray⟩:dv).size
   have c:(⟨L.toArray⟩++⟨#[0]⟩:dv).size=L.length+1:=by rw[show(⟨L.toArray⟩++⟨#[0]⟩:dv)=_ from ec L [0]];show(L++[0]).toArray.size=_;simp
   have n:(⟨L.toArray⟩:dv).size=L.length:=by show L.toArray.size=_;simp
   rw[c,n];omega
  ·obtain rfl:k=dz 64 8 d.size:=by omega
   have r:(L.length:Int)%64=56:=by
    have:=iP 64 8 d.size (by omega) (by omega) (by omega);omega
   go_wp2_with fail
   have b:=mx (BitVec.ofNat 64 (d.size*8)) 8 (by omega) wr;rw[AA _ j]at b;refine Calls.mono b ?_;rintro c B ⟨rfl,l⟩;generalize a:dA 8 (BitVec.ofNat 64 (d.size*8)) 8=T;have y:T.length=8:=by rw[<-a];exact dm _ _ _
   have p:Hid _:=a;clear a b;have u:L.length+T.length<=9223372036854775807:=by have:=g.out;omega
   go_wp2
   go_ret;refine⟨?_,l⟩;rw[ec,dw,p.out,<-f.out];rfl
theorem Be(n:Nat)(h:n<=140737488355328):eS (BitVec.ofNat 64 (n*8))=8*(n:Int):=by
 unfold eS;rw[Ml,Kw];split<;>omega
def gQ(l:dj)(k:Nat):dj:=l++[128]++List.replicate k 0
theorem qa(l:dj)(k:Nat):(gQ l k).length=l.length+1+k:=by simp[gQ];omega
theorem sC(l:dj)(k:Nat):gQ l (k+1)=gQ l k++[0]:=by simp[gQ,List.replicate_succ']
theorem wX(d:dv)(w:Wd)(j:d.size<=140737488355328):Calls prog 118 #[.string d,.int .i64 128] w fun e t=>e=.returned (.string ⟨(dw 128 16 d.data.toList d.size).toArray⟩)/\Below w.heap.size w t:=by
 have i:dz 128 16 d.size<128:=LB _ (by omega);have g:Hid _:=i;clear i;go_enter func118,ntmps118;go_wp2
 go_loopw [5] (fun v wr=>∃k:Nat,k<=dz 128 16 d.size/\v=.string ⟨(gQ d.data.toList k).toArray⟩/\wr=w) (fun v _=>9223372036854775807-(match v with| .string s=>s.size|_=>0))
 case atStart=>exact⟨0,by omega,KV Value.string (KF (by simp[gQ])),rfl⟩
 case round=>
  obtain⟨k,z,rfl,hw⟩:=hrel;subst hw;have m:(gQ d.data.toList k).length=d.size+1+k:=qa _ _;generalize h:gQ d.data.toList k=L at m;have f:Hid _:=h;clear h;have x:L.length+1<=9223372036854775807:=by have:=g.out;omega
  by_cases q:k<dz 128 16 d.size
  ·have r:¬((L.length:Int)%128=112):=by
    have:=kO 128 16 d.size k (by omega) (by omega) (by omega) q;omega
   go_wp2
   have o:(⟨L.toArray⟩++⟨#[0]⟩:dv)=⟨(gQ d.data.toList (k+1)).toArray⟩:=by rw[sC,f.out];exact ec L [0]
   refine⟨⟨k+1,by omega,by rw[o],trivial⟩,?_⟩;show 9223372036854775807-(⟨L.toArray⟩++⟨#[0]⟩:dv).size<9223372036854775807-(⟨L.toArray⟩:dv).size
   have c:(⟨L.toArray⟩++⟨#[0]⟩:dv).size=L.length+1:=by rw[show(⟨L.toArray⟩++⟨#[0]⟩:dv)=_ from ec L [0]];show(L++[0]).toArray.size=_;simp
   have n:(⟨L.toArray⟩:dv).size=L.length:=by show L.toArray.size=_;simp
   rw[c,n];omega
  ·obtain rfl:k=dz 128 16 d.size:=by omega
   have r:(L.length:Int)%128=112:=by
    have:=iP 128 16 d.size (by omega) (by omega) (by omega);omega
   go_wp2_with fail
   have b:=mx (BitVec.ofNat 64 (d.size*8)) 16 (by omega) wr;rw[Be _ j]at b;refine Calls.mono b ?_;rintro c B ⟨rfl,l⟩;generalize a:dA 16 (BitVec.ofNat 64 (d.size*8)) 16=T;have y:T.length=16:=by rw[<-a];exact dm _ _ _
   have p:Hid _:=a;clear a b;have u:L.length+T.length<=9223372036854775807:=by have:=g.out;omega
   go_wp2
   go_ret;refine⟨?_,l⟩;rw[ec,dw,p.out,<-f.out];rfl
theorem Jt{w:Wd}{a kb:Nat}{s:St 32}{t e:TypeId}(h:w.heap[a]?=some (.cells (gR kb s) t (0,0)))(d:w.heap[kb]?=some (.cells ru e (0,0))):ff nC w a kb/\w.cell? ⟨a,1,none⟩=some (.int .u32 (eW s.a))/\w.cell? ⟨a,2,none⟩=some (.int .u32 (eW s.b))/\w.cell? ⟨a,3,none⟩=some (.int .u32 (eW s.c))/\w.cell? ⟨a,4,none⟩=some (.int .u32 (eW s.d))/\w.cell? ⟨a,5,none⟩=some (.int .u32 (eW s.e))/\w.cell? ⟨a,6,none⟩=some (.int .u32 (eW s.f))/\w.cell? ⟨a,7,none⟩=some (.int .u32 (eW s.g))/\w.cell? ⟨a,8,none⟩=some (.int .u32 (eW s.h)):=by
 have c:=fun j=>JE w a j _ _ _ h
 refine⟨⟨(c 0).trans rfl,(c 9).trans rfl,(c 10).trans rfl,(c 11).trans rfl,(c 12).trans rfl,(c 13).trans rfl,(c 14).trans rfl,(c 15).trans rfl,(c 16).trans rfl,(c 17).trans rfl,(c 18).trans rfl,(c 19).trans rfl,(c 20).trans rfl,(c 21).trans rfl,?_,rfl,⟨rfl,rfl,rfl⟩,⟨rfl,rfl,rfl⟩,⟨rfl,rfl,rfl⟩,⟨rfl,rfl,rfl⟩⟩,(c 1).trans rfl,(c 2).trans rfl,(c 3).trans rfl,(c 4).trans rfl,(c 5).trans rfl,(c 6).trans rfl,(c 7).trans rfl,(c 8).trans rfl⟩;intro i f;rw[JE w kb i _ _ _ d];have b:i<uH.length:=f;show((uH.map fun k=>Value.int .u32 (eW k)).toArray)[i]?=some (.int .u32 (eW (uH.getD i 0)))
 simp[List.getElem?_eq_getElem b]
theorem GY{w:Wd}{a kb:Nat}{s:St 64}{t e:TypeId}(h:w.heap[a]?=some (.cells (ej kb s) t (0,0)))(d:w.heap[kb]?=some (.cells oF e (0,0))):fe ld w a kb/\w.cell? ⟨a,1,none⟩=some (.int .u64 (eW s.a))/\w.cell? ⟨a,2,none⟩=some (.int .u64 (eW s.b))/\w.cell? ⟨a,3,none⟩=some (.int .u64 (eW s.c))/\w.cell? ⟨a,4,none⟩=some (.int .u64 (eW s.d))/\w.cell? ⟨a,5,none⟩=some (.int .u64 (eW s.e))/\w.cell? ⟨a,6,none⟩=some (.int .u64 (eW s.f))/\w.cell? ⟨a,7,none⟩=some (.int .u64 (eW s.g))/\w.cell? ⟨a,8,none⟩=some (.int .u64 (eW s.h)):=by
 have c:=fun j=>JE w a j _ _ _ h
 refine⟨⟨(c 0).trans rfl,(c 9).trans rfl,(c 10).trans rfl,(c 11).trans rfl,(c 12).trans rfl,(c 13).trans rfl,(c 14).trans rfl,(c 15).trans rfl,(c 16).trans rfl,(c 17).trans rfl,(c 18).trans rfl,(c 19).trans rfl,(c 20).trans rfl,(c 21).trans rfl,?_,rfl,⟨rfl,rfl,rfl⟩,⟨rfl,rfl,rfl⟩,⟨rfl,rfl,rfl⟩,⟨rfl,rfl,rfl⟩⟩,(c 1).trans rfl,(c 2).trans rfl,(c 3).trans rfl,(c 4).trans rfl,(c 5).trans rfl,(c 6).trans rfl,(c 7).trans rfl,(c 8).trans rfl⟩;intro i f;rw[JE w kb i _ _ _ d];have b:i<uq.length:=f;show((uq.map fun k=>Value.int .u64 (eW k)).toArray)[i]?=some (.int .u64 (eW (uq.getD i 0)))
 simp[List.getElem?_eq_getElem b]
def fY(a:Int):Bool:=a==256||a==384||a==512
def cC(a:Int):Int:=if a=256 then 32 else if a=384 then 48 else if a=512 then 64 else 0
theorem mu(a:Int)(w:Wd):Calls prog 92 #[.int .i64 a] w fun e g=>e=.returned (.int .i64 (cC a))/\g=w:=by
 by_cases b:a=256
 ·subst b
  go_enter func92,ntmps92;go_wp2;go_ret;exact⟨rfl,rfl⟩
 by_cases d:a=384
 ·subst d
  go_enter func92,ntmps92;go_wp2;go_ret;exact⟨rfl,rfl⟩
 by_cases c:a=512
 ·subst c
  go_enter func92,ntmps92;go_wp2;go_ret;exact⟨rfl,rfl⟩
 ·have h:(a==256)=false:=by simp[b]
  have f:Hid (cC a=0):=by show cC a=0;simp[cC,b,d,c]
  go_enter func92,ntmps92;go_wp2;go_ret;exact⟨by rw[f.out];rfl,rfl⟩
def cX(a:Int)(l:dj):dj:=
 if a=256 then dg (lg nC lq l) 8 else if a=384 then(cW (iZ ld ii l) 8).take 48 else if a=512 then cW (iZ ld j5 l) 8 else []
theorem Hx{w b:Wd}{kb:Nat}{k:Array Value}{t e:TypeId}(S:St 32)(c:b.heap[kb]?=some (.cells k e (0,0)))(d:Below w.heap.size w b):∃a,b.alloc (.cells (gR kb S) t)=a/\a.heap[b.heap.size]?=some (.cells (gR kb S) t (0,0))/\a.heap[kb]?=some (.cells k e (0,0))/\Below w.heap.size w a:=
 ⟨_,rfl,JK _ _,by rw[JO _ _ (go.1 c).1];exact c,cK d _⟩
theorem CR{w b:Wd}{kb:Nat}{k:Array Value}{t e:TypeId}(S:St 64)(c:b.heap[kb]?=some (.cells k e (0,0)))(d:Below w.heap.size w b):∃a,b.alloc (.cells (ej kb S) t)=a/\a.heap[b.heap.size]?=some (.cells (ej kb S) t (0,0))/\a.heap[kb]?=some (.cells k e (0,0))/\Below w.heap.size w a:=
 ⟨_,rfl,JK _ _,by rw[JO _ _ (go.1 c).1];exact c,cK d _⟩
theorem Dd(d:dv)(w:Wd)(y:d.size<=140737488355328):Calls prog 112 #[.int .i64 256,.string d] w fun e v=>e=.returned (.string ⟨(dg (lg nC lq d.data.toList) 8).toArray⟩)/\Below w.heap.size w v:=by
 go_enter func112,ntmps112;go_wp2_with fail
 refine(DD w).mono ?_;rintro H i ⟨rfl,A,b⟩;generalize D:lq=S;have F:Hid _:=D;generalize K:w.heap.size+1=l at b;have z:Hid _:=b;have C:Hid _:=A;go_wp2_with (first|(refine Kn rfl 197 (.tmp 5) (.tmp 11) rfl i.heap.size _ rfl rfl _ _ (JK _ _) (ku _ _) rfl (nX _ _) ?_;rw[World.setRow_alloc_new];obtain⟨r,f,h,g,a⟩:=Hx (t:=197) S z.out C.out;rw[f];have m:Hid _:=h;have p:Hid _:=g;have c:Hid _:=a;clear f h g a))
 obtain⟨q,u,x,k,G,s,j,n,B⟩:=Jt m.out p.out;refine(Is i.heap.size l S d r nC y q u x k G s j n B).mono ?_;rintro J I ⟨rfl,o⟩;have E:=c.out.trans (o.mono c.out.size);go_wp2
 go_ret;refine⟨?_,E⟩;rw[F.out];rfl
theorem Dm(d:dv)(w:Wd)(y:d.size<=140737488355328):Calls prog 112 #[.int .i64 512,.string d] w fun e v=>e=.returned (.string ⟨(cW (iZ ld j5 d.data.toList) 8).toArray⟩)/\Below w.heap.size w v:=by
 go_enter func112,ntmps112;go_wp2_with fail
 refine(vk w).mono ?_;rintro H i ⟨rfl,A,b⟩;generalize D:j5=S;have F:Hid _:=D;generalize K:w.heap.size+1=l at b;have z:Hid _:=b;have C:Hid _:=A;go_wp2_with (first|(refine Kn rfl 203 (.tmp 7) (.tmp 23) rfl i.heap.size _ rfl rfl _ _ (JK _ _) (eY _ _) rfl (iw _ _) ?_;rw[World.setRow_alloc_new];obtain⟨r,f,h,g,a⟩:=CR (t:=203) S z.out C.out;rw[f];have m:Hid _:=h;have p:Hid _:=g;have c:Hid _:=a;clear f h g a))
 obtain⟨q,u,x,k,G,s,j,n,B⟩:=GY m.out p.out;refine(EO i.heap.size l S d r ld y q u x k G s j n B).mono ?_;rintro J I ⟨rfl,o⟩;have E:=c.out.trans (o.mono c.out.size);go_wp2
 go_ret;refine⟨?_,E⟩;rw[F.out];rfl
theorem CE(d:dv)(w:Wd)(D:d.size<=140737488355328):Calls prog 112 #[.int .i64 384,.string d] w fun e z=>e=.returned (.string ⟨((cW (iZ ld ii d.data.toList) 8).take 48).toArray⟩)/\Below w.heap.size w z:=by
 go_enter func112,ntmps112;go_wp2_with fail
 refine(Do w).mono ?_;rintro O j ⟨l,rfl,F,U,o⟩;generalize J:ii=S;have M:Hid _:=J;have E:Hid _:=o;have H:Hid _:=F;go_wp2_with (first|(refine Kn rfl 203 (.tmp 6) (.tmp 16) rfl j.heap.size _ rfl rfl _ _ (JK _ _) (eY _ _) rfl (iw _ _) ?_;rw[World.setRow_alloc_new];obtain⟨v,f,i,g,a⟩:=CR (t:=203) S E.out H.out;rw[f];have n:Hid _:=i;have r:Hid _:=g;have c:Hid _:=a;clear f i g a))
 obtain⟨s,y,C,m,N,x,k,p,G⟩:=GY n.out r.out;refine(EO j.heap.size l S d v ld D s y C m N x k p G).mono ?_;rintro T R ⟨rfl,q⟩;have K:=c.out.trans (q.mono c.out.size);generalize h:cW (iZ ld S d.data.toList) 8=L;have u:Hid _:=h;have I:48<=(ByteArray.mk L.toArray).size:=by show 48<=L.toArray.size;rw[<-h];simp[ek]
 go_wp2_with (go_at_call 92;refine(mu 384 _).mono ?_;rintro Q B ⟨rfl,b⟩;rw[b];clear b B;rw[show cC 384=48 from rfl])
 go_ret;refine⟨?_,K⟩;rw[M.out,u.out];have A:(ByteArray.mk L.toArray).extract 0 48=⟨(L.take 48).toArray⟩:=KF (by rw[dd];simp);show Ending.returned (.string ((ByteArray.mk L.toArray).extract 0 48))=_
 rw[A]
theorem BR(a:Int)(d:dv)(w:Wd)(f:(a==256)=false)(g:(a==384)=false)(c:(a==512)=false):Calls prog 112 #[.int .i64 a,.string d] w fun e b=>e=.returned (.string ⟨#[]⟩)/\b=w:=by
 go_enter func112,ntmps112;go_wp2;go_ret;exact⟨rfl,rfl⟩
theorem EJ(a:Int)(d:dv)(w:Wd)(g:d.size<=140737488355328):Calls prog 112 #[.int .i64 a,.string d] w fun e h=>e=.returned (.string ⟨(cX a d.data.toList).toArray⟩)/\Below w.heap.size w h:=by
 unfold cX;by_cases c:a=256
 ·subst c;rw[if_pos rfl];exact Dd d w g
 ·rw[if_neg c]
  by_cases f:a=384
  ·subst f;rw[if_pos rfl];exact CE d w g
  ·rw[if_neg f]
   by_cases b:a=512
   ·subst b;rw[if_pos rfl];exact Dm d w g
   ·rw[if_neg b]
    exact(BR a d w (by simp[c]) (by simp[f]) (by simp[b])).mono fun e h ⟨i,hw⟩=>⟨i,by rw[hw];exact cF w⟩
theorem rC{n:Nat}(p:dN n)(y z:Nat)(s:St n)(A B:dj)(m:Nat)(c:A.length=m*z):∀j,j<=m->cA p y z s (A++B) j=cA p y z s A j:=by
 intro j;induction j with
 | zero=>intro _;rfl
 | succ j ih=>
   intro b;have a:(j+1)*z<=m*z:=Ll _ b;have d:j*z+z<=A.length:=by rw[c];rw[Nat.add_mul,Nat.one_mul]at a;exact a
   rw[cA,cA,ih (by omega),List.drop_append_of_le_length (by omega),Lo (by rw[Kk];omega)]
theorem oY{n:Nat}(p:dN n)(y z:Nat)(s:St n)(A B:dj)(m:Nat)(a:A.length=m*z)(k:Nat):cA p y z s (A++B) (m+k)=cA p y z (cA p y z s A m) B k:=by
 induction k with
 | zero=>exact rC p y z s A B m a m (JQ _)
 | succ k ih=>
   rw[<-LF,cA,cA,ih,Nat.add_mul,<-a,List.drop_append];congr 2
   rw[J8 (by omega),Lj,KZ]
theorem pD(z c m:Nat)(l:dj)(a:Nat)(b:m=l.length/z):dw z c l a=l.take (m*z)++dw z c (l.drop (m*z)) a:=by
 have d:dz z c l.length=dz z c (l.drop (m*z)).length:=by
  rw[<-At z c l.length];congr 1
  rw[Kk,b,ML,Nat.mod_eq_sub_mul_div]
 unfold dw;rw[d,<-J1,<-J1,<-J1,Mc]
theorem sN{n:Nat}(p:dN n)(y z c:Nat)(e:0<z)(s:St n)(l:dj)(a:Nat):cA p y z s (dw z c l a) ((dw z c l a).length/z)=cA p y z (cA p y z s (l.take (l.length/z*z)) (l.length/z)) (dw z c (l.drop (l.length/z*z)) a) ((dw z c (l.drop (l.length/z*z)) a).length/z):=by
 have b:(l.take (l.length/z*z)).length=l.length/z*z:=by
  rw[J6];exact Mg (Nat.div_mul_le_self _ _)
 have d:(dw z c l a).length/z=l.length/z+(dw z c (l.drop (l.length/z*z)) a).length/z:=by
  rw[pD z c _ l a rfl,JH,b,Nj,Nat.add_mul_div_right _ _ e,Nj]
 rw[d,pD z c _ l a rfl];exact oY p y z s _ _ _ b _
theorem Gk{w:Wd}{b a kb:Nat}{s:St 32}(h:mq w b a kb s):i6 w nC b:=by
 have c:=fun j=>JE w b j _ _ _ h.by_
 exact⟨rfl,(c 0).trans rfl,(c 1).trans rfl,(c 2).trans rfl,(c 3).trans rfl,(c 4).trans rfl,(c 5).trans rfl,(c 6).trans rfl,(c 7).trans rfl,(c 8).trans rfl,(c 9).trans rfl,(c 10).trans rfl,(c 11).trans rfl,⟨rfl,rfl,rfl⟩,⟨rfl,rfl,rfl⟩,⟨rfl,rfl,rfl⟩,⟨rfl,rfl,rfl⟩⟩
theorem DA{w:Wd}{b a kb:Nat}{s:St 32}(h:mq w b a kb s):∀i,i<64->w.cell? ⟨kb,i,none⟩=some (.int .i64 (eS (ex (nC.K.getD i 0)))):=by
 intro i d;rw[JE w kb i _ _ _ h.k];have c:i<uH.length:=d;show((uH.map fun k=>Value.int .i64 (eS (ex (k)))).toArray)[i]?=some (.int .i64 (eS (ex (uH.getD i 0))))
 simp[List.getElem?_eq_getElem c]
structure rQ (w:Wd) (g0 b hg kb:Nat):Prop where
 row:w.heap[g0]?=some (.cells (fI 32 64 b hg kb) 166 (0,0))
 by_:w.heap[b]?=some (.cells nG 3 (0,0))
 k:w.heap[kb]?=some (.cells vb 3 (0,0))
theorem rQ.up{w w':Wd}{d b c kb:Nat}(h:rQ w d b c kb)(a:Below w.heap.size w w'):rQ w' d b c kb:=⟨Go.Proofs.YtihboehpeehlmaaGreatDoor.Dg.up a h.row,Go.Proofs.YtihboehpeehlmaaGreatDoor.Dg.up a h.by_,Go.Proofs.YtihboehpeehlmaaGreatDoor.Dg.up a h.k⟩
theorem rQ.cells{w:Wd}{a b d kb:Nat}(h:rQ w a b d kb):w.cell? ⟨a,0,none⟩=some (.int .i64 32)/\w.cell? ⟨a,1,none⟩=some (.int .i64 64)/\w.cell? ⟨a,2,none⟩=some (.slice (some ⟨b,0,none⟩) 12 12)/\w.cell? ⟨a,3,none⟩=some (.slice (some ⟨d,0,none⟩) 8 8)/\w.cell? ⟨a,4,none⟩=some (.slice (some ⟨kb,0,none⟩) 64 64):=by
 have c:=fun j=>JE w a j _ _ _ h.row
 exact⟨(c 0).trans rfl,(c 1).trans rfl,(c 2).trans rfl,(c 3).trans rfl,(c 4).trans rfl⟩
theorem vf(j b kb f n:Nat)(a:St 32)(s:dv)(w:Wd)(i:s.size=64)(c:rQ w j b n kb)(d:w.heap[f]?=some (.cells (d7 a) 3 (0,0)))(v3:Va):Calls prog 119 #[.agg #[.int .i64 32,.int .i64 64,.slice (some ⟨b,0,none⟩) 12 12,v3,.slice (some ⟨kb,0,none⟩) 64 64],.slice (some ⟨f,0,none⟩) 8 8,.string s] w fun e h=>∃g,e=.returned (.slice (some ⟨g,0,none⟩) 8 8)/\h.heap[g]?=some (.cells (d7 (gv nC 4 a s.data.toList)) 3 (0,0))/\Below w.heap.size w h:=
 (xo b kb f a s w nC i (Gk (s:=a) ⟨c.by_,d,c.k⟩) (DA (s:=a) ⟨c.by_,d,c.k⟩) d v3).mono fun e h ⟨g,m,l,_,k⟩=>⟨g,m,l,k⟩
theorem Iy(x:BitVec 32)(k:Nat):dA 4 (ex (x)) k=dA 4 x k:=by first|rfl|exact wG _ _ _
def n4(s0:St 32)(l:dj):St 32:=cA nC 4 64 s0 (dw 64 8 l l.length) ((dw 64 8 l l.length).length/64)
theorem uE(l:dj)(h:l.length<=140737488355328):(dw 64 8 l l.length).length<=4611686018427387904:=by
 have e:(dw 64 8 l l.length).length=l.length+1+dz 64 8 l.length+8:=by simp[dw,dm];omega
 have a:dz 64 8 l.length<64:=LB _ (by omega);omega
set_option maxHeartbeats 1000000 in
theorem Gi(a:Int)(c:Nat)(p:St 32)(hS:∀w,Calls prog 52 #[.int .i64 a] w fun e t=>e=.returned (.int .i64 (c:Int))/\t=w)(h0:0<c)(h1:c<=8*4)(hW:∀w,Calls prog 117 #[.int .i64 a] w fun e t=>∃b h r,e=.returned (.agg (fI 32 64 b h r))/\mq t b h r p/\Below w.heap.size w t)(d:dv)(w:Wd)(hd:d.size<=140737488355328):Calls prog 84 #[.int .i64 a,.string d] w fun e t=>e=.returned (.string ⟨((dg (n4 p d.data.toList) 8).take c).toArray⟩)/\Below w.heap.size w t:=by
 have aR:((c:Int)==0)=false:=by simp;omega
 go_enter func84,ntmps84;go_wp2_with (go_at_call 52;refine(hS _).mono ?_;rintro e1 f ⟨rfl,Y⟩;rw[Y];clear Y f)
 refine(hW _).mono ?_;rintro e1 f ⟨b,h,r,rfl,hR,aw⟩;have G:Hid _:=hR;have S:Hid _:=aw;clear hR aw;have V:=JK f (.cells (fI 32 64 b h r) 166);have y:Below f.heap.size f (f.alloc (.cells (fI 32 64 b h r) 166)):=cK (cF _) _;obtain⟨I,R⟩:∃I,f.alloc (.cells (fI 32 64 b h r) 166)=I:=⟨_,rfl⟩;rw[R]at V y;have aa:rQ I f.heap.size b h r:=⟨V,up y G.out.by_,up y G.out.k⟩;have ad:=up y G.out.h;have am:=S.out.trans (y.mono S.out.size);obtain⟨D,O,X,H,U⟩:=aa.cells;have aq:Hid _:=R;have ab:Hid _:=aa;have an:Hid _:=ad;have P:Hid _:=am;clear R V y aa ad am;go_wp2_with (first|(refine Kn rfl 166 (.tmp 5) (.tmp 17) rfl f.heap.size _ rfl rfl _ _ (JK _ _) (fl _ _ _ _ _) rfl (jQ _ _ _ _ _) ?_;rw[World.setRow_alloc_new,aq.out]))
 refine(zi d I hd).mono ?_;rintro e3 w3 ⟨rfl,z⟩;have aI:=uE d.data.toList (by simpa using hd);have J:=l6 d.data.toList d.data.toList.length;have aj:Hid (∀l,l=d.data.toList->n4 p l=cA nC 4 64 p (dw 64 8 l l.length) ((dw 64 8 l l.length).length/64)):=fun _ _=>rfl
 rw[show d.size=d.data.toList.length from by simp];generalize hT:dw 64 8 d.data.toList d.data.toList.length=T at aI J;obtain⟨m,hm⟩:∃m,T.length/64=m:=⟨_,rfl⟩;rw[hm]at J;have HT:Hid (n4 p d.data.toList=cA nC 4 64 p T m):=by show n4 p d.data.toList=_;rw[aj.out _ rfl,hT,hm]
 clear hm hT aj;have al:Hid _:=J;clear J;have Z:=ab.out.up z;have ac:=up z an.out;have ai:=P.out.trans (z.mono P.out.size);have ay:=cI z D;have av:=cI z H;generalize f.heap.size=g0 at Z ay av;clear aq ab an P D O X H U z G S;have aL:Hid _:=Z;have az:Hid _:=ac;have au:Hid _:=ai;clear Z ac ai;go_wp2_with fail
 go_loopw [8,9] (fun v i wr=>∃(k g:Nat),k<=m/\i=.int .i64 ((k*64:Nat):Int)/\v=.slice (some ⟨g,0,none⟩) 8 8/\wr.heap[g]?=some (.cells (d7 (cA nC 4 64 p T k)) 3 (0,0))/\Below w3.heap.size w3 wr) (fun _ i _=>T.length-(intOf i).toNat)
 case atStart=>exact⟨0,h,by omega,rfl,rfl,az.out,cF _⟩
 case round=>
  obtain⟨k,g,hk,rfl,rfl,M,K⟩:=hrel;clear ay av;generalize hv:cA nC 4 64 p T k=v at M;have HV:Hid _:=hv;clear hv;have W:=aL.out.up K;obtain⟨D,O,X,H,U⟩:=W.cells;have ag:Hid _:=W;have HG:Hid _:=M;have Q:Hid _:=K;clear W M K;by_cases ae:k<m
  ·have aF:k*64+64<=T.length:=by have:(k+1)*64<=m*64:=Ll _ ae;have:=al.out;omega
   generalize hn:k*64=n at aF;have HN:Hid _:=hn;clear hn;have aB:(⟨T.toArray⟩:dv).size=T.length:=by show T.toArray.size=_;simp
   have Y:=fi ((n:Int)+64) (by omega);have ao:(0:Int)<=(n:Int):=by omega
   have ap:(n:Int)<=(n:Int)+64:=by omega
   have aH:(n:Int)+64<=(T.length:Int):=by omega
   go_wp2_with fail
   go_region_with (go_at_call 119;refine(vf g0 b r g h v ((⟨T.toArray⟩:dv).extract n (n+64)) wr.drew (by simp[aB];omega) (ag.out.up (JI wr.heap.size wr).drew) (by rw[Lz];exact HG.out) _).mono ?_;rintro e4 w4 ⟨g4,rfl,af,ak⟩;have aD:Hid _:=af;have aK:Hid _:=ak;clear af ak)
   all_goals
    have ar:(n:Int)+64=(((k+1)*64:Nat):Int):=by have:=HN.out;omega
    have aJ:Hid _:=ar;clear ar;go_wp2_with fail
    refine⟨⟨k+1,g4,by omega,by rw[aJ.out],rfl,?_,?_⟩,?_⟩
    ·rw[aD.out,cA,HV.out,HN.out,dd,show n+64-n=64 from by omega]
    ·have E:=aK.out
     exact Q.out.trans (Nl (B:=wr.heap.size) ⟨E.os,E.tape,E.output,E.size,E.block⟩ Q.out.size)
    ·simp[intOf];omega
  ·obtain rfl:k=m:=by omega
   have aQ:(T.length:Int)=((k*64:Nat):Int):=by have:=al.out;omega
   obtain⟨wA,aG⟩:∃x,x=wr:=⟨wr,rfl⟩;subst aG;clear D O X H U hk ae;go_wp2_with fail
   go_loopw [10,11] (fun o i wx=>∃j:Nat,j<=8/\i=.int .i64 j/\o=.string ⟨(dg v j).toArray⟩/\Below wA.heap.size wA wx) (fun _ i _=>8-(intOf i).toNat)
   case atStart=>exact⟨0,by omega,rfl,rfl,cF _⟩
   case round=>
    obtain⟨j,hj,rfl,rfl,u⟩:=hrel;by_cases aA:j<8
    ·have D:=(ag.out.up u).cells.1
     have cv:wr.cell? ⟨g,j,none⟩=some (.int .i64 (eS (ex (fB v j)))):=by rw[JE _ _ _ _ _ _ (up u HG.out),nh _ _ aA]
     generalize hq:fB v j=q at cv;have HQ:Hid _:=hq;clear hq;have F:Hid _:=u;clear u;generalize s:dg v j=L;have A:L.length=j*4:=by rw[<-s];exact fs _ _
     have N:Hid (dg v j=L):=s;clear s;have ao:(j:Int)<8:=by omega
     have ap:(0:Int)<=(j:Int):=by omega
     have aM:L.length+(dA 4 q 4).length<=9223372036854775807:=by rw[dm];omega
     have aC:Hid _:=A;clear A;go_wp2_with fail
     go_region_with (go_at_call 120;refine(mx (ex (q)) 4 (by omega) _).mono ?_;rintro e6 w6 ⟨rfl,ax⟩;rw[Iy];have aE:Hid _:=ax;clear ax)
     all_goals
      go_wp2_with fail
      refine⟨?_,by simp[intOf];omega⟩;repeat apply Exists.intro
      refine⟨?_,rfl⟩;refine⟨j+1,by omega,by go_num,?_,?_⟩
      ·rw[dg,N.out,HQ.out,<-ec]
      ·have C:=aE.out
       exact F.out.trans (Nl (B:=wr.heap.size) ⟨C.os,C.tape,C.output,C.size,C.block⟩ F.out.size)
    ·obtain rfl:j=8:=by omega
     generalize s:dg v 8=L;have A:L.length=8*4:=by rw[<-s];exact fs _ _
     have N:Hid (dg v 8=L):=s;clear s
     have aH:(c:Int)<=(L.length:Int):=by omega
     have F:Hid _:=u;clear u A;go_wp2_with (go_at_call 52;refine(hS _).mono ?_;rintro e7 w7 ⟨rfl,ah⟩;rw[ah];clear ah w7)
     go_ret;refine⟨?_,?_⟩
     ·rw[HT.out,HV.out,N.out]
      have hx:(ByteArray.mk L.toArray).extract 0 c=⟨(L.take c).toArray⟩:=KF (by rw[dd];simp);show Ending.returned (.string ((ByteArray.mk L.toArray).extract 0 c))=_
      rw[hx]
     ·have t1:=au.out.trans (Q.out.mono au.out.size)
      exact t1.trans (F.out.mono t1.size)
theorem yW(a:St 32)(l:dj):n4 a l=lg nC a l:=sN nC 4 64 8 (by omega) a l l.length
theorem FN{w:Wd}{b a kb:Nat}{s:St 64}(h:gX w b a kb s):iY w ld b:=by
 have c:=fun j=>JE w b j _ _ _ h.by_
 exact⟨rfl,(c 0).trans rfl,(c 1).trans rfl,(c 2).trans rfl,(c 3).trans rfl,(c 4).trans rfl,(c 5).trans rfl,(c 6).trans rfl,(c 7).trans rfl,(c 8).trans rfl,(c 9).trans rfl,(c 10).trans rfl,(c 11).trans rfl,⟨rfl,rfl,rfl⟩,⟨rfl,rfl,rfl⟩,⟨rfl,rfl,rfl⟩,⟨rfl,rfl,rfl⟩⟩
theorem Ez{w:Wd}{b a kb:Nat}{s:St 64}(h:gX w b a kb s):∀i,i<80->w.cell? ⟨kb,i,none⟩=some (.int .i64 (eS (ld.K.getD i 0))):=by
 intro i d;rw[JE w kb i _ _ _ h.k];have c:i<uq.length:=d;show((uq.map fun k=>Value.int .i64 (eS (k))).toArray)[i]?=some (.int .i64 (eS (uq.getD i 0)))
 simp[List.getElem?_eq_getElem c]
structure se (w:Wd) (g0 b hg kb:Nat):Prop where
 row:w.heap[g0]?=some (.cells (fI 64 80 b hg kb) 166 (0,0))
 by_:w.heap[b]?=some (.cells jg 3 (0,0))
 k:w.heap[kb]?=some (.cells tj 3 (0,0))
theorem se.up{w w':Wd}{d b c kb:Nat}(h:se w d b c kb)(a:Below w.heap.size w w'):se w' d b c kb:=⟨Go.Proofs.YtihboehpeehlmaaGreatDoor.Dg.up a h.row,Go.Proofs.YtihboehpeehlmaaGreatDoor.Dg.up a h.by_,Go.Proofs.YtihboehpeehlmaaGreatDoor.Dg.up a h.k⟩
theorem se.cells{w:Wd}{a b d kb:Nat}(h:se w a b d kb):w.cell? ⟨a,0,none⟩=some (.int .i64 64)/\w.cell? ⟨a,1,none⟩=some (.int .i64 80)/\w.cell? ⟨a,2,none⟩=some (.slice (some ⟨b,0,none⟩) 12 12)/\w.cell? ⟨a,3,none⟩=some (.slice (some ⟨d,0,none⟩) 8 8)/\w.cell? ⟨a,4,none⟩=some (.slice (some ⟨kb,0,none⟩) 80 80):=by
 have c:=fun j=>JE w a j _ _ _ h.row
 exact⟨(c 0).trans rfl,(c 1).trans rfl,(c 2).trans rfl,(c 3).trans rfl,(c 4).trans rfl⟩
theorem we(j b kb f n:Nat)(a:St 64)(s:dv)(w:Wd)(i:s.size=128)(c:se w j b n kb)(d:w.heap[f]?=some (.cells (dK a) 3 (0,0)))(v3:Va):Calls prog 119 #[.agg #[.int .i64 64,.int .i64 80,.slice (some ⟨b,0,none⟩) 12 12,v3,.slice (some ⟨kb,0,none⟩) 80 80],.slice (some ⟨f,0,none⟩) 8 8,.string s] w fun e h=>∃g,e=.returned (.slice (some ⟨g,0,none⟩) 8 8)/\h.heap[g]?=some (.cells (dK (gv ld 8 a s.data.toList)) 3 (0,0))/\Below w.heap.size w h:=
 (xk b kb f a s w ld i (FN (s:=a) ⟨c.by_,d,c.k⟩) (Ez (s:=a) ⟨c.by_,d,c.k⟩) d v3).mono fun e h ⟨g,m,l,_,k⟩=>⟨g,m,l,k⟩
theorem Ho(x:BitVec 64)(k:Nat):dA 8 (x) k=dA 8 x k:=by first|rfl|exact wG _ _ _
def oH(s0:St 64)(l:dj):St 64:=cA ld 8 128 s0 (dw 128 16 l l.length) ((dw 128 16 l l.length).length/128)
theorem uz(l:dj)(h:l.length<=140737488355328):(dw 128 16 l l.length).length<=4611686018427387904:=by
 have e:(dw 128 16 l l.length).length=l.length+1+dz 128 16 l.length+16:=by simp[dw,dm];omega
 have a:dz 128 16 l.length<128:=LB _ (by omega);omega
set_option maxHeartbeats 1000000 in
theorem zZ(a:Int)(c:Nat)(p:St 64)(hS:∀w,Calls prog 52 #[.int .i64 a] w fun e t=>e=.returned (.int .i64 (c:Int))/\t=w)(h0:0<c)(h1:c<=8*8)(hW:∀w,Calls prog 117 #[.int .i64 a] w fun e t=>∃b h r,e=.returned (.agg (fI 64 80 b h r))/\gX t b h r p/\Below w.heap.size w t)(d:dv)(w:Wd)(hd:d.size<=140737488355328):Calls prog 84 #[.int .i64 a,.string d] w fun e t=>e=.returned (.string ⟨((cW (oH p d.data.toList) 8).take c).toArray⟩)/\Below w.heap.size w t:=by
 have aR:((c:Int)==0)=false:=by simp;omega
 go_enter func84,ntmps84;go_wp2_with (go_at_call 52;refine(hS _).mono ?_;rintro e1 f ⟨rfl,Y⟩;rw[Y];clear Y f)
 refine(hW _).mono ?_;rintro e1 f ⟨b,h,r,rfl,hR,aw⟩;have G:Hid _:=hR;have S:Hid _:=aw;clear hR aw;have V:=JK f (.cells (fI 64 80 b h r) 166);have y:Below f.heap.size f (f.alloc (.cells (fI 64 80 b h r) 166)):=cK (cF _) _;obtain⟨I,R⟩:∃I,f.alloc (.cells (fI 64 80 b h r) 166)=I:=⟨_,rfl⟩;rw[R]at V y;have aa:se I f.heap.size b h r:=⟨V,up y G.out.by_,up y G.out.k⟩;have ad:=up y G.out.h;have am:=S.out.trans (y.mono S.out.size);obtain⟨D,O,X,H,U⟩:=aa.cells;have aq:Hid _:=R;have ab:Hid _:=aa;have an:Hid _:=ad;have P:Hid _:=am;clear R V y aa ad am;go_wp2_with (first|(refine Kn rfl 166 (.tmp 5) (.tmp 17) rfl f.heap.size _ rfl rfl _ _ (JK _ _) (fl _ _ _ _ _) rfl (jQ _ _ _ _ _) ?_;rw[World.setRow_alloc_new,aq.out]))
 refine(wX d I hd).mono ?_;rintro e3 w3 ⟨rfl,z⟩;have aI:=uz d.data.toList (by simpa using hd);have J:=lR d.data.toList d.data.toList.length;have aj:Hid (∀l,l=d.data.toList->oH p l=cA ld 8 128 p (dw 128 16 l l.length) ((dw 128 16 l l.length).length/128)):=fun _ _=>rfl
 rw[show d.size=d.data.toList.length from by simp];generalize hT:dw 128 16 d.data.toList d.data.toList.length=T at aI J;obtain⟨m,hm⟩:∃m,T.length/128=m:=⟨_,rfl⟩;rw[hm]at J;have HT:Hid (oH p d.data.toList=cA ld 8 128 p T m):=by show oH p d.data.toList=_;rw[aj.out _ rfl,hT,hm]
 clear hm hT aj;have al:Hid _:=J;clear J;have Z:=ab.out.up z;have ac:=up z an.out;have ai:=P.out.trans (z.mono P.out.size);have ay:=cI z D;have av:=cI z H;generalize f.heap.size=g0 at Z ay av;clear aq ab an P D O X H U z G S;have aL:Hid _:=Z;have az:Hid _:=ac;have au:Hid _:=ai;clear Z ac ai;go_wp2_with fail
 go_loopw [8,9] (fun v i wr=>∃(k g:Nat),k<=m/\i=.int .i64 ((k*128:Nat):Int)/\v=.slice (some ⟨g,0,none⟩) 8 8/\wr.heap[g]?=some (.cells (dK (cA ld 8 128 p T k)) 3 (0,0))/\Below w3.heap.size w3 wr) (fun _ i _=>T.length-(intOf i).toNat)
 case atStart=>exact⟨0,h,by omega,rfl,rfl,az.out,cF _⟩
 case round=>
  obtain⟨k,g,hk,rfl,rfl,M,K⟩:=hrel;clear ay av;generalize hv:cA ld 8 128 p T k=v at M;have HV:Hid _:=hv;clear hv;have W:=aL.out.up K;obtain⟨D,O,X,H,U⟩:=W.cells;have ag:Hid _:=W;have HG:Hid _:=M;have Q:Hid _:=K;clear W M K;by_cases ae:k<m
  ·have aF:k*128+128<=T.length:=by have:(k+1)*128<=m*128:=Ll _ ae;have:=al.out;omega
   generalize hn:k*128=n at aF;have HN:Hid _:=hn;clear hn;have aB:(⟨T.toArray⟩:dv).size=T.length:=by show T.toArray.size=_;simp
   have Y:=fi ((n:Int)+128) (by omega);have ao:(0:Int)<=(n:Int):=by omega
   have ap:(n:Int)<=(n:Int)+128:=by omega
   have aH:(n:Int)+128<=(T.length:Int):=by omega
   go_wp2_with fail
   go_region_with (go_at_call 119;refine(we g0 b r g h v ((⟨T.toArray⟩:dv).extract n (n+128)) wr.drew (by simp[aB];omega) (ag.out.up (JI wr.heap.size wr).drew) (by rw[Lz];exact HG.out) _).mono ?_;rintro e4 w4 ⟨g4,rfl,af,ak⟩;have aD:Hid _:=af;have aK:Hid _:=ak;clear af ak)
   all_goals
    have ar:(n:Int)+128=(((k+1)*128:Nat):Int):=by have:=HN.out;omega
    have aJ:Hid _:=ar;clear ar;go_wp2_with fail
    refine⟨⟨k+1,g4,by omega,by rw[aJ.out],rfl,?_,?_⟩,?_⟩
    ·rw[aD.out,cA,HV.out,HN.out,dd,show n+128-n=128 from by omega]
    ·have E:=aK.out
     exact Q.out.trans (Nl (B:=wr.heap.size) ⟨E.os,E.tape,E.output,E.size,E.block⟩ Q.out.size)
    ·simp[intOf];omega
  ·obtain rfl:k=m:=by omega
   have aQ:(T.length:Int)=((k*128:Nat):Int):=by have:=al.out;omega
   obtain⟨wA,aG⟩:∃x,x=wr:=⟨wr,rfl⟩;subst aG;clear D O X H U hk ae;go_wp2_with fail
   go_loopw [10,11] (fun o i wx=>∃j:Nat,j<=8/\i=.int .i64 j/\o=.string ⟨(cW v j).toArray⟩/\Below wA.heap.size wA wx) (fun _ i _=>8-(intOf i).toNat)
   case atStart=>exact⟨0,by omega,rfl,rfl,cF _⟩
   case round=>
    obtain⟨j,hj,rfl,rfl,u⟩:=hrel;by_cases aA:j<8
    ·have D:=(ag.out.up u).cells.1
     have cv:wr.cell? ⟨g,j,none⟩=some (.int .i64 (eS (fy v j))):=by rw[JE _ _ _ _ _ _ (up u HG.out),np _ _ aA]
     generalize hq:fy v j=q at cv;have HQ:Hid _:=hq;clear hq;have F:Hid _:=u;clear u;generalize s:cW v j=L;have A:L.length=j*8:=by rw[<-s];exact ek _ _
     have N:Hid (cW v j=L):=s;clear s;have ao:(j:Int)<8:=by omega
     have ap:(0:Int)<=(j:Int):=by omega
     have aM:L.length+(dA 8 q 8).length<=9223372036854775807:=by rw[dm];omega
     have aC:Hid _:=A;clear A;go_wp2_with fail
     go_region_with (go_at_call 120;refine(mx (q) 8 (by omega) _).mono ?_;rintro e6 w6 ⟨rfl,ax⟩;rw[Ho];have aE:Hid _:=ax;clear ax)
     all_goals
      go_wp2_with fail
      refine⟨?_,by simp[intOf];omega⟩;repeat apply Exists.intro
      refine⟨?_,rfl⟩;refine⟨j+1,by omega,by go_num,?_,?_⟩
      ·rw[cW,N.out,HQ.out,<-ec]
      ·have C:=aE.out
       exact F.out.trans (Nl (B:=wr.heap.size) ⟨C.os,C.tape,C.output,C.size,C.block⟩ F.out.size)
    ·obtain rfl:j=8:=by omega
     generalize s:cW v 8=L;have A:L.length=8*8:=by rw[<-s];exact ek _ _
     have N:Hid (cW v 8=L):=s;clear s
     have aH:(c:Int)<=(L.length:Int):=by omega
     have F:Hid _:=u;clear u A;go_wp2_with (go_at_call 52;refine(hS _).mono ?_;rintro e7 w7 ⟨rfl,ah⟩;rw[ah];clear ah w7)
     go_ret;refine⟨?_,?_⟩
     ·rw[HT.out,HV.out,N.out]
      have hx:(ByteArray.mk L.toArray).extract 0 c=⟨(L.take c).toArray⟩:=KF (by rw[dd];simp);show Ending.returned (.string ((ByteArray.mk L.toArray).extract 0 c))=_
      rw[hx]
     ·have t1:=au.out.trans (Q.out.mono au.out.size)
      exact t1.trans (F.out.mono t1.size)
theorem ri(a:St 64)(l:dj):oH a l=iZ ld a l:=sN ld 8 128 16 (by omega) a l l.length
end Go.Proofs.YtihboehpeehlmaaGreatDoor.Dg
