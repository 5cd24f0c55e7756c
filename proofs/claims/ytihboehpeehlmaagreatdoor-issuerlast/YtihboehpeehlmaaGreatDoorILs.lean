import Derived.Test.YtihboehpeehlmaaGreatDoorIEn2
import Derived.Test.YtihboehpeehlmaaGreatDoorIRk2
namespace Go.Proofs.YtihboehpeehlmaaGreatDoor.Dg
set_option maxRecDepth 4000
open Tryz Go.RowKit Go.Deep
set_option linter.unusedVariables false
set_option linter.unusedSimpArgs false
def Dk9(n:Nat)(ks:rg):Prop:=(ks.Pairwise fun a b=>a.kid≠b.kid)/\∀k∈ks,∃j,j<=n/\k.kid=kidB j
theorem kidB_inj{m n:Nat}(a:m<=9007199254740991)(b:n<=9007199254740991)(h:kidB m=kidB n):m=n:=by
 have e:∀n,(kidB n).data.toList=107::dR n:=fun n=>by
  unfold kidB;rw[<-pm,ByteArray.data_append,show ew (n:Int)=dR n by unfold ew;rw[if_neg (by omega)];rfl];simp
 have h:=congrArg (fun x:dv=>x.data.toList) h;simp only[e]at h;injection h with _ h;have c:=(Ab m).2 a;have d:=(Ab n).2 b;rw[h]at c;omega
theorem Dk9.rot{n:Nat}{d:rg}(h:Dk9 n d)(p:n<=9007199254740990)(i:Int)(g:dv):Dk9 (sX n d i g) (tF n d i g):=by
 unfold sX tF;split
 ·refine⟨List.pairwise_append.2 ⟨h.1,by simp,fun a m b f e=>?_⟩,fun k c=>?_⟩
  ·rw[List.mem_singleton]at f
   subst f;obtain⟨j,o,l⟩:=h.2 a m;have:=kidB_inj (by omega) (by omega) (l.symm.trans e);omega
  ·rcases List.mem_append.1 c with c|c
   ·obtain⟨j,o,e⟩:=h.2 k c
    exact⟨j,by omega,e⟩
   ·rw[List.mem_singleton]at c
    subst c;exact⟨_,Nat.le_refl _,rfl⟩
 ·exact h
theorem Dk9.ret{n:Nat}{a:rg}(h:Dk9 n a)(c:dv):Dk9 n (sk c a):=by
 unfold sk;split
 ·exact h
 ·exact⟨h.1.sublist (List.eraseIdx_sublist _ _),fun k b=>h.2 k (List.mem_of_mem_eraseIdx b)⟩
theorem jh.at'{o:Obj}{T i:TypeId}{B b:Nat}{j k:rg}{a:Value}{w c d:Wd}{f:Value->Obj}{X:Obj}(g:SI o T B b j a w)(h:jh f i B b k a c d)(e:c.heap=(w.alloc X).heap):d.heap[w.heap.size]?=some X:=by
 obtain⟨_,_,_,h⟩:=h;have l:=g.lt;rw[h.block w.heap.size (by rw[e];simp) (by omega) (fun e=>by have:=(g.row.lt _ e).2;omega),e];exact heap_alloc_new w X
structure KL9 (iss:dv) (ttl:Int) (B b n:Nat) (now:Int) (ks:rg) (kv:Value) (w:Wd):Prop where
 gd:Gd now ks
 sc:SI (cO iss ttl now n kv) 73 B b ks kv w
 dk:Dk9 n ks
theorem KL9.next{iss:dv}{ttl:Int}{B b n:Nat}{q:Int}{o:rg}{l:Value}{w m f:Wd}{g:Int}{d:Nat}{c:rg}(h:KL9 iss ttl B b n q o l w)(j:Below w.heap.size w m)(t:jh (cO iss ttl g d) 73 B b c l m f)(s:Gd g c)(r:Dk9 d c):(∃i,KL9 iss ttl B b d g c i f)/\Below B w f:=by
 obtain⟨i,p,_,a⟩:=t;have u:=h.sc.lt;have v:=h.sc.bB;have x:=j.size;exact⟨⟨i,s,p,r⟩,(j.mono (by omega)).trans ⟨a.os,a.tape,a.output,a.size,fun k y=>a.block k (by omega) (by omega) (fun e=>by have:=(h.sc.row.lt k e).1;omega)⟩⟩
theorem expB_text{c:rg}(d:c.length<=20)(e:∀k∈c,keyErr k.alg k.kid k.key=0)(f:c.Pairwise fun a b=>a.kid≠b.kid):expB c=⟨(rB c).toArray⟩:=by
 unfold expB prT;rw[prS_none c [] (by simpa using d) e (by simpa using f)]
theorem tick_ok{b a:Int}(h:0<=b/\b<=9007199254740991)(c:¬a<0):b<=tickN b a/\tickN b a<=9007199254740991/\(tickN b a=9007199254740991\/(tickN b a=b+a/\b+a<=9007199254740991)):=by
 unfold tickN;rw[if_neg c];split<;>omega
set_option maxRecDepth 8000 in
set_option maxHeartbeats 4000000 in
theorem llast(iss:dv)(ttl:Int)(x:Value)(D:List DG)(W:dv)(w:Wd)(hx:OR w x D)(hl:D.length<=2000000000000)(hs:iss.size<=140737488351232)(aA:W.size<=140737488351232)(al:∀o∈D,o.s.size<=140737488351232)(hG:Gw w):Calls prog 5 #[.string iss,.int .i64 ttl,x,.string W] w fun r w'=>r=.returned (.bool true)/\Below w.heap.size w w':=by
 have HN:=ci (I8 iss ttl w hs hG.vars.tabs);have HR:=ci (fun N=>Ig iss ttl N hs);have ax:=ci al;have az:=ci (CT (iss:=iss) (ttl:=ttl));obtain⟨ad,aH,rfl,hx⟩:=hx;have HX:=ci hx;generalize newE iss ttl=E at *;clear al hx hs;go_enter func5,ntmps5;go_wp2_with fail
 refine HN.out.mono ?_;rintro r N ⟨⟨rfl,b,b0,rfl,b1⟩|⟨u,rfl⟩,l⟩
 ·have HI:=ci (az.out rfl)
  go_wp2_with fail
  refine(HR.out _).mono ?_;rintro r w2 ⟨⟨_,d,d0,rfl,d1⟩|⟨u,rfl⟩,t⟩
  ·have ar:Hid (0<=0/\KL9 iss ttl w.heap.size b 0 0 [] (.slice none 0 0) w2/\Below w.heap.size w w2):=⟨Nat.le_refl _,⟨⟨⟨by decide,by decide⟩,by simp,fun k e=>by cases e⟩,⟨(t.block b (Array.getElem?_eq_some_iff.1 b1.obj).1).trans b1.obj,World.ownsRow_nil _ _ _ _,by simp[Value.ownBlock],b0⟩,⟨.nil,fun k e=>by cases e⟩⟩,l.trans (t.mono l.size)⟩
   clear l t b1 d1;go_wp2_with (refine(oK 0 _).mono ?_;rintro r H ⟨rfl,ab⟩;rw[ab];clear ab H)
   go_loopw [13,14] (fun nv iv wr=>∃(i n:Nat) (j:Int) (s:rg) (J:Value),i<=D.length/\nv=.int .i64 j/\iv=.int .i64 (i:Int)/\Hid (n<=i/\KL9 iss ttl w.heap.size b n j s J wr/\Below w.heap.size w wr)) (fun _ iv _=>D.length-(intOf iv).toNat)
   case atStart=>exact⟨0,0,0,[],_,by omega,rfl,rfl,ar⟩
   case round=>
    clear ar;obtain⟨i,n,j,s,J,hi,rfl,rfl,a⟩:=hrel;by_cases aC:i<D.length
    ·have k1:(i:Int)<(D.length:Int):=by omega
     have k2:(i:Int)<1152921504606846976:=by omega
     have k3:(i:Int)<=2000000000000:=by omega
     obtain⟨o,ho⟩:∃o,D[i]?=some o:=⟨_,List.getElem?_eq_getElem aC⟩;obtain⟨g,au,rfl,c0,c1,c2,c3,c4,c5⟩:=HX.out i o ho;have aB:=ax.out o (List.mem_of_getElem? ho);replace c0:=cl a.out.2.2 c0
     replace c1:=cl a.out.2.2 c1
     replace c2:=cl a.out.2.2 c2
     replace c3:=cl a.out.2.2 c3
     replace c4:=cl a.out.2.2 c4
     replace c5:=cl a.out.2.2 c5
     obtain⟨V,y,ob,R,ot,va,vl,vc⟩:=o;simp only at c0 c1 c2 c3 c4 c5 aB;have hA:∀X,Below wr.heap.size wr (wr.alloc X):=fun X=>d6 (Below.refl _ _) X
     have ak:∀X,Below wr.heap.size wr (wr.alloc X).drew:=fun X=>(hA X).drew
     have Q:=ci hA;have ap:=ci ak;have f:=ci (a.out.2.1.gd);have P:=ci (hG.below a.out.2.2);have C:=ci a.out.2.1.sc;clear hA ak;by_cases e1:V=1
     ·subst e1
      go_wp2_with fail
      go_region_with (go_at_call 12;refine(Ie iss ttl j n s J w.heap.size b y _ (C.out.below (ap.out _)) f.out.clk.1 f.out.clk.2).mono ?_;rintro r H ⟨rfl,l⟩;have H1:=ci l;clear l)
      all_goals (
       have q:=jh.at' C.out H1.out rfl;have x0:H.cell? ⟨wr.heap.size,0,none⟩=some (.int .i64 1):=by rw[cell_of_row _ _ _ _ _ _ q];rfl
       have x1:H.cell? ⟨wr.heap.size,1,none⟩=some (.int .i64 y):=by rw[cell_of_row _ _ _ _ _ _ q];rfl
       clear q;have A:=ci (a.out.2.1.next (ap.out _) H1.out (f.out.tick y) a.out.2.1.dk);unfold uR uF;by_cases U:y<0
       ·rw[if_pos U,if_pos U]
        have HT:Hid (tickN j y=j):=by show _=_;unfold tickN;rw[if_pos U]
        go_wp2_with (refine(oK _ _).mono ?_;rintro r Y ⟨rfl,L⟩;rw[L];clear L Y)
        obtain⟨⟨I,B⟩,F⟩:=A.out;rw[HT.out]at B;exact⟨⟨i+1,n,j,s,I,by omega,rfl,by go_num,by have:=a.out.1;omega,B,a.out.2.2.trans F⟩,by simp[intOf];omega⟩
       ·rw[if_neg U,if_neg U]
        obtain⟨t1,t2,t3⟩:=tick_ok f.out.clk U;have HM:=ci f.out.clk;generalize tickN j y=m at *;have u1:decide (m<j)=false:=decide_eq_false (by omega);have u2:decide (9007199254740991<m)=false:=decide_eq_false (by omega);have an:=ci t3;clear t1 t2 t3;by_cases hq:IntKind.i64.wrap (j+y)=m
        ·go_wp2_with (refine(oK _ _).mono ?_;rintro r Y ⟨rfl,L⟩;rw[L];clear L Y)
         obtain⟨⟨I,B⟩,F⟩:=A.out;exact⟨⟨i+1,n,m,s,I,by omega,rfl,by go_num,by have:=a.out.1;omega,B,a.out.2.2.trans F⟩,by simp[intOf];omega⟩
        ·obtain rfl:m=9007199254740991:=by
          rcases an.out with h|⟨h,h'⟩
          ·exact h
          ·exact absurd ((fi _ (by have:=HM.out;omega)).trans h.symm) hq
         generalize hz:IntKind.i64.wrap (j+y)=z at hq;have u4:((9007199254740991:Int) != z)=true:=by rw[bne_iff_ne];exact Ne.symm hq
         clear hq an u2;go_wp2_with (refine(oK _ _).mono ?_;rintro r Y ⟨rfl,L⟩;rw[L];clear L Y)
         obtain⟨⟨I,B⟩,F⟩:=A.out;exact⟨⟨i+1,n,_,s,I,by omega,rfl,by go_num,by have:=a.out.1;omega,B,a.out.2.2.trans F⟩,by simp[intOf];omega⟩)
     have aJ:(V==1)=false:=by rw[beq_eq_false_iff_ne];exact e1
     by_cases e2:V=2
     ·subst e2
      go_wp2_with fail
      refine(Jd iss ttl j n s J w.heap.size b y R _ (C.out.below (Q.out _)) (P.out.below (Q.out _)).ways (P.out.below (Q.out _)).tab f.out.few (by have:=a.out.1;omega) (by omega)).mono ?_;rintro r H ⟨rfl,l⟩;have q:=jh.at' C.out l rfl;have x0:H.cell? ⟨wr.heap.size,0,none⟩=some (.int .i64 2):=by rw[cell_of_row _ _ _ _ _ _ q];rfl
      have A:=ci (a.out.2.1.next (Q.out _) l (f.out.rot n (by have:=a.out.1;omega) y R) (a.out.2.1.dk.rot (by have:=a.out.1;omega) y R));clear q l;go_wp2_with fail
      obtain⟨⟨I,B⟩,F⟩:=A.out;exact⟨⟨i+1,_,j,_,I,by omega,rfl,by go_num,by have:=a.out.1;have:=Ef n s y R;omega,B,a.out.2.2.trans F⟩,by simp[intOf];omega⟩
     have aN:(V==2)=false:=by rw[beq_eq_false_iff_ne];exact e2
     by_cases e3:V=3
     ·subst e3
      go_wp2_with fail
      refine(Jo iss ttl j n s J w.heap.size b R _ (C.out.below (Q.out _)) f.out.few).mono ?_;rintro r H ⟨rfl,l⟩;have A:=ci (a.out.2.1.next (Q.out _) l (f.out.ret R) (a.out.2.1.dk.ret R));clear l;go_wp2_with fail
      obtain⟨⟨I,B⟩,F⟩:=A.out;exact⟨⟨i+1,n,j,_,I,by omega,rfl,by go_num,by have:=a.out.1;omega,B,a.out.2.2.trans F⟩,by simp[intOf];omega⟩
     have aD:(V==3)=false:=by rw[beq_eq_false_iff_ne];exact e3
     go_wp2_with fail
     exact⟨⟨i+1,n,j,s,J,by omega,rfl,by go_num,by have:=a.out.1;omega,⟨f.out,C.out.below (Q.out _),a.out.2.1.dk⟩,a.out.2.2.trans ((Q.out _).mono a.out.2.2.size)⟩,by simp[intOf];omega⟩
    ·have k1:¬(i:Int)<(D.length:Int):=by omega
     have f:=ci a.out.2.1.gd;have C:=ci a.out.2.1.sc;have P:=ci (hG.below a.out.2.2);have HE:=ci (GZ iss ttl j n s J w.heap.size b wr C.out P.out.ways f.out.few f.out.fit);rw[expB_text f.out.few f.out.fit a.out.2.1.dk.1]at HE;have aj:=ci (fun w=>rreadKeys s f.out.few f.out.fit a.out.2.1.dk.1 w);have ae:=ci (fun w5 (h5:Below wr.heap.size wr w5)=>Jv iss ttl j n s J w.heap.size b W w5 (C.out.below h5) (P.out.below h5).ways (P.out.below h5).size (P.out.below h5).vars (P.out.below h5).tab f.out.few f.out.fit HI.out.1 f.out.clk HI.out.2);have ag:iss.data.toList.length<=1048576:=by rw[Array.length_toList];exact Nat.le_trans HI.out.1 (by decide)
     have Z:=fun N=>Hv W iss.data.toList j ttl N aA ag (by have:=f.out.clk;omega) (by have:=f.out.clk;omega) (by have:=HI.out;omega) (by have:=HI.out;omega)
     have ah:=DW W.data.toList iss.data.toList j ttl;generalize (⟨(rB s).toArray⟩:dv)=T at *;unfold mE at ae;go_wp2_with fail
     refine HE.out.mono ?_;rintro r w5 ⟨rfl,l⟩;go_wp2_with fail
     refine(aj.out _).mono ?_;rintro r w6 ⟨⟨v,rfl,hv⟩,t⟩;have t:=l.trans (t.mono l.size);have af:=ci (KR.of hv);clear hv;obtain⟨av,cv,rfl⟩:=af.out.shape;go_wp2_with fail
     refine(ae.out _ t).mono ?_;rintro r S ⟨rfl,q3⟩;obtain⟨aL,aK,e',_,hc⟩:=af.out.below q3;injection e' with e1 e2 e3;subst e1 e3;have q3:=t.trans (q3.mono t.size);have HQ:=ci (a.out.2.2.trans (q3.mono a.out.2.2.size));clear l t q3 e2 af ae aj HE;rcases last_cases s with rfl|⟨m,k,hm,ac,ai⟩
     ·clear hc Z ah ag
      go_wp2_with (refine(oK _ _).mono ?_;rintro r p ⟨rfl,K⟩;rw[K];clear K p)
      go_ret;exact⟨rfl,HQ.out⟩
     ·rw[ai,hm]
      have aq:=f.out.fit k (List.mem_of_getElem? ac);have ay:=hI aq;have ao:=fun(c:dv) N (hc:c.size<=140737488351232)=>yC k.alg k.kid k.key c N (by omega) (by omega) hc
      rw[th]at Z;dsimp only;generalize mkR W.data.toList iss.data.toList j ttl=M at *;obtain⟨M1,M2,M3⟩:=M;dsimp only at Z ⊢;have aa:=fun N=>ao ⟨M1.toArray⟩ N (by show M1.toArray.size<=_;simp;dsimp only at ah;omega)
      dsimp only at aa;generalize sgR k.alg k.kid k.key (cB M1)=G at aa ⊢;obtain⟨G1,G2,G3⟩:=G;dsimp only at aa ⊢;obtain⟨g,au,rfl,p0,p1,p2⟩:=hc m k ac;have aI:(m:Int)<=20:=by have:=f.out.few;omega
      have aE:IntKind.i64.wrap (m:Int)=(m:Int):=fi _ (by omega);have aF:(0:Int)<=(m:Int):=by omega
      have aG:(m:Int)<(m:Int)+1:=by omega
      have HM:=ci Z;have HS:=ci aa;clear hc Z ao aa aq ay ai ac ah ag;have am:∀(p w9:Wd),(∃X,Below (S.alloc X).heap.size (S.alloc X) p)->Below p.heap.size p w9->Below w.heap.size w w9:=fun p w9 ⟨X,h8⟩ h9=>by
       have h8:=(d6 (Below.refl S.heap.size S) X).trans (h8.mono (by simp));have h9:=h8.trans (h9.mono h8.size);exact HQ.out.trans (h9.mono HQ.out.size)
      have A:=ci am;clear am HQ;by_cases u:M2=0
      ·rw[if_pos u]
       subst u;dsimp only;go_wp2_with fail
       refine(HM.out _).mono ?_;rintro r p ⟨rfl,O⟩;have x0:p.cell? ⟨S.heap.size,0,none⟩=some (.int .i64 k.alg):=cl O (by simp);have x1:p.cell? ⟨S.heap.size,1,none⟩=some (.string k.kid):=cl O (by simp);have x2:p.cell? ⟨S.heap.size,2,none⟩=some (.string k.key):=cl O (by simp);have Q4:=ci O;clear O p0 p1 p2;go_wp2_with fail
       refine(HS.out _).mono ?_;rintro r w9 ⟨rfl,q5⟩;have Q5:=ci (A.out _ _ ⟨_,Q4.out⟩ q5);clear q5;go_wp2_with (refine(oK _ _).mono ?_;rintro r p ⟨rfl,K⟩;rw[K];clear K p)
       go_ret;exact⟨by simp,Q5.out⟩
      ·rw[if_neg u]
       dsimp only;have aO:(M2==0)=false:=by rw[beq_eq_false_iff_ne];exact u
       have aw:(M2 != 0)=true:=by rw[bne_iff_ne];exact u
       clear u;go_wp2_with fail
       refine(HM.out _).mono ?_;rintro r p ⟨rfl,O⟩;have Q5:=ci (A.out _ _ ⟨_,O⟩ (Below.refl _ _));clear O;go_wp2_with (refine(oK _ _).mono ?_;rintro r p ⟨rfl,K⟩;rw[K];clear K p)
       go_ret;exact⟨by simp,Q5.out⟩
  ·exact absurd rfl u
 ·have aM:(E==0)=false:=by rw[beq_eq_false_iff_ne];exact u
  have aw:(E != 0)=true:=by simp[u]
  go_wp2_with fail
  refine(HR.out _).mono ?_;rintro r w2 ⟨⟨h0,_⟩|⟨_,rfl⟩,t⟩
  ·exact absurd h0 u
  have q:=ci (l.trans (t.mono l.size));clear u l t;go_wp2_with (refine(oK E _).mono ?_;rintro r H ⟨rfl,ab⟩;rw[ab];clear ab H)
  go_ret;exact⟨rfl,q.out⟩
end Go.Proofs.YtihboehpeehlmaaGreatDoor.Dg
