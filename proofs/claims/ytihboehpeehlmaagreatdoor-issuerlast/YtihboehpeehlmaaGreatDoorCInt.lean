import Derived.Test.YtihboehpeehlmaaGreatDoorK4
namespace Go.Proofs.YtihboehpeehlmaaGreatDoor
open Tryz
open Go.RowKit
set_option linter.unusedVariables false
section
variable (Y:Nat) (s:dv) (i:Nat) (X:Va) (W:Nat) (w:Wd)
def CI(R:Except (Nat×Nat) (Int×Nat))(r:Ending)(w':Wd):Prop:=
 match R with
 | .ok (n,k)=>r=.returned (.int .i64 n)/\CD Y s (i+k) X W w'
 | .error (e,o)=>r=.panicked (gI e (i+o))/\∃j,CD Y s j X W w'
theorem zS(Z:dv)(d:Z.size<=140737488340000)(h:CD Y s i X W w)(v:Int)(c:Lib.parseIntB 64 Z.data.toList=.ok v):Calls prog 226 #[.string Z,.int .i64 10,.int .i64 64] w fun e a=>e=.returned (.tuple #[.int .i64 v,.nilIface])/\CD Y s i X W a/\ca Y w a:=by
 refine(strconv_ParseInt_10_at64_ok Z (by omega) v c w).mono ?_;rintro e a ⟨rfl,hw⟩;have b:Below w.heap.size w a:=by
  rcases hw with rfl|⟨t,rfl⟩
  ·exact JI _ _
  ·exact Lib.bytesWorld_below _ _ _
 exact⟨rfl,(b.block Y h.lt).trans h,iH b⟩
theorem xr(Z:dv)(j:Z.size<=140737488340000)(h:CD Y s i X W w)(g:GV w)(f:Lib.parseIntB 64 Z.data.toList=.range):Calls prog 226 #[.string Z,.int .i64 10,.int .i64 64] w fun e a=>∃N n,e=.returned (.tuple #[.int .i64 n,.iface 296 (.pointer (some ⟨N,0,none⟩))])/\CD Y s i X W a/\ca Y w a:=by
 obtain⟨c,p,d⟩:=g.rng;refine(strconv_ParseInt_10_at64_range_var Z (by omega) f c p w d).mono ?_;rintro e a ⟨N,rfl,_,_,b⟩;exact⟨N,_,rfl,(b.block Y h.lt).trans h,iH b⟩
set_option maxHeartbeats 4000000 in
theorem rc(hs:s.size<=140737488340000)(ac:9<=Y)(h:CD Y s i X W w)(hG:GV w)(m k T:Nat)(V:Int)(tk:Bool)(hm:i+m+k<=s.size)(hk:k=nd (b9 s (i+m)))(B:Calls prog 221 #[.pointer (some ⟨Y,0,none⟩),.int .u8 45] w fun r b=>r=.returned (.bool tk)/\CD Y s (i+m) X W b/\ca Y w b)(ak:di (b9 s i)=if k=0\/(1<k/\(b9 s (i+m)).head?=some 48)then .error (2,m)else if cH<T then .error (3,0)else .ok (V,m+k))(hV:T<=cH-> -9007199254740991<=V/\V<=9007199254740991)(ab:¬k=0->PI T V (Lib.parseIntB 64 (s.extract i (i+m+k)).data.toList)):Calls prog 210 #[.pointer (some ⟨Y,0,none⟩)] w fun r b=>CI Y s i X W (di (b9 s i)) r b/\ca Y w b:=by
 obtain⟨D,hD⟩:∃D,s.extract (i+m) (i+m+k)=D:=⟨_,rfl⟩;have an:D.size=k:=by rw[<-hD];simp;omega
 have A:=fun b H=>p9 Y s (i+m) X W b (by omega) H (by omega)
 rw[Fk,<-hk,hD]at A;have ah:∀hh:0<D.size,(b9 s (i+m)).head?=some (D[0]'hh):=by
  intro hh;have aq:i+m<s.size:=by omega
  rw[cg s (i+m) aq];subst hD;simp[ByteArray.getElem_extract]
 obtain⟨f,c,j,d,g⟩:=h.cell;have S:Hid _:=ak;have HK:Hid _:=hk;clear ak hk;by_cases ai:k=0
 ·have eL:D.toList.length=D.size:=by rw[Lc];simp
  have aj:D.toList=[]:=Kt.1 (by omega);have eD:(D.toList==[])=true:=by rw[aj];rfl
  have ap:D.toList.isEmpty=true:=by rw[aj];rfl
  have G:Hid (di (b9 s i)=.error (2,m)):=by
   have:=S.out;rw[if_pos (.inl ai)]at this;exact this
  clear hD ah aj eL S ab;have ao:=fun b H=>l7 Y s (i+m+k) X W b H
  go_enter func210,ntmps210;go_wp2_with fail
  refine B.mono ?_;rintro e q ⟨rfl,p,l⟩;have o:Hid (ca Y w q):=l;clear l B f c j d g;obtain⟨f,c,j,d,g⟩:=p.cell;go_wp2_with fail
  refine(A q p).mono ?_;rintro e a ⟨rfl,x,t⟩;have y:Hid (ca Y w a):=o.out.trans t;clear t A o;go_wp2_with fail
  refine(ao a x).mono ?_;rintro e u ⟨rfl,rfl⟩;clear ao;go_wp2;refine⟨rfl,?_,y.out⟩;rw[G.out];exact⟨rfl,_,x⟩
 ·have eD:(D.toList==[])=false:=by
   rw[JJ];intro e;have:D.toList.length=D.size:=by rw[Lc];simp
   rw[e]at this;simp at this;omega
  have ap:D.toList.isEmpty=false:=by
   cases hx:D.toList with
   | nil=>rw[hx]at eD;cases eD
   | cons _ _=>rfl
  have ar:0<D.size:=by omega
  have ae:=ah ar;have ax:(0:Int)<(D.size:Int):=by omega
  have am:(D.size:Int)=(k:Int):=by omega
  clear ah hD;by_cases R:1<k/\(b9 s (i+m)).head?=some 48
  ·have z:((D[0].toNat:Int)==48)=true:=by
    have:=R.2;rw[ae]at this;injection this with this;rw[this];rfl
   have aa:(1:Int)<(D.size:Int):=by omega
   have G:Hid (di (b9 s i)=.error (2,m)):=by
    have:=S.out;rw[if_pos (.inr R)]at this;exact this
   have F:∀b,Calls prog 192 #[.int .i64 2,.int .i64 ((i+m:Nat):Int)] b fun r af=>r=.panicked (gI 2 (i+m))/\af=b:=fun b=>jn 2 (i+m) b
   rw[show((i+m:Nat):Int)=(i:Int)+(m:Int)by omega]at F;clear S ab R ae am an;go_enter func210,ntmps210;go_wp2_with fail
   refine B.mono ?_;rintro e q ⟨rfl,p,l⟩;have o:Hid (ca Y w q):=l;clear l B f c j d g;obtain⟨f,c,j,d,g⟩:=p.cell;go_wp2_with fail
   refine(A q p).mono ?_;rintro e a ⟨rfl,x,t⟩;have y:Hid (ca Y w a):=o.out.trans t;clear t A o;go_wp2_with fail
   refine(F a).mono ?_;rintro e u ⟨rfl,rfl⟩;clear F;go_wp2;refine⟨rfl,?_,y.out⟩;rw[G.out];exact⟨rfl,_,x⟩
  ·have I:di (b9 s i)=if cH<T then .error (3,0)else .ok (V,m+k):=by
    have:=S.out;rw[if_neg (by rintro(h|h);exact ai h;exact R h)]at this;exact this
   have al:=ab ai;clear S ab;obtain⟨Z,L⟩:∃Z,s.extract i (i+m+k)=Z:=⟨_,rfl⟩;have U:Z.size<=140737488340000:=by rw[<-L];simp;omega
   rw[L]at al;have ay:(i:Int)<=(i:Int)+(m:Int)+(k:Int):=by omega
   have aw:(i:Int)+(m:Int)+(k:Int)<=(s.size:Int):=by omega
   have au:((i:Int)+(m:Int)+(k:Int)).toNat=i+m+k:=by omega
   have F:∀b,Calls prog 192 #[.int .i64 3,.int .i64 (i:Int)] b fun r af=>r=.panicked (gI 3 i)/\af=b:=fun b=>jn 3 i b
   have z:¬(1:Int)<(D.size:Int)\/((1:Int)<(D.size:Int)/\((D[0].toNat:Int)==48)=false):=by
    by_cases h1:1<k
    ·refine .inr ⟨by omega,?_⟩
     rw[JJ];intro e;refine R ⟨h1,?_⟩;rw[ae];congr 1;exact K9.1 (by simpa using by omega)
    ·exact .inl (by omega)
   clear R ae am an HK;have ag:T<=cH-> -9007199254740991<=V/\V<=9007199254740991:=hV;clear hV;rcases al with⟨hT,K⟩|⟨hT,K|⟨v,K,hv⟩⟩
   ·have G:Hid (di (b9 s i)=.ok (V,m+k)):=by rw[if_neg (by omega)]at I;exact I
    have J:=fun b H=>zS Y s (i+m+k) X W b Z U H V K
    rw[<-L]at J;obtain⟨v1,v2⟩:=ag hT;clear I K F L U;go_enter func210,ntmps210;go_wp2_with fail
    refine B.mono ?_;rintro e q ⟨rfl,p,l⟩;have o:Hid (ca Y w q):=l;clear l B f c j d g;obtain⟨f,c,j,d,g⟩:=p.cell;go_wp2_with fail
    refine(A q p).mono ?_;rintro e a ⟨rfl,x,t⟩;have y:Hid (ca Y w a):=o.out.trans t;have Q:GV a:=hG.onl y.out ac h.lt;have ad:GV a.drew:=Q.kept (fun _ _=>rfl);have P:CD Y s (i+m+k) X W a.drew:=x;clear t A o f c j d g;obtain⟨f,c,j,d,g⟩:=x.cell;rw[show((i+m+k:Nat):Int)=(i:Int)+(m:Int)+(k:Int)by omega]at c;rcases z with z|⟨aa,z⟩
    all_goals
     go_wp2_with fail
     go_region_with (go_at_call 226;refine(J _ P).mono ?_;rintro e u ⟨rfl,C,E⟩;have M:Hid (ca Y w u):=ca.trans (ca.trans y.out ((ce Y a).drewN 1)) E;have O:Hid (CD Y s (i+m+k) X W u):=C;clear E C)
     all_goals
      go_wp2;go_ret;refine⟨?_,M.out⟩;rw[G.out];exact⟨rfl,by rw[<-LF];exact O.out⟩
   ·have G:Hid (di (b9 s i)=.error (3,0)):=by rw[if_pos hT]at I;exact I
    have J:=fun b H g'=>xr Y s (i+m+k) X W b Z U H g' K
    rw[<-L]at J;clear I K L U ag;go_enter func210,ntmps210;go_wp2_with fail
    refine B.mono ?_;rintro e q ⟨rfl,p,l⟩;have o:Hid (ca Y w q):=l;clear l B f c j d g;obtain⟨f,c,j,d,g⟩:=p.cell;go_wp2_with fail
    refine(A q p).mono ?_;rintro e a ⟨rfl,x,t⟩;have y:Hid (ca Y w a):=o.out.trans t;have Q:GV a:=hG.onl y.out ac h.lt;have ad:GV a.drew:=Q.kept (fun _ _=>rfl);have P:CD Y s (i+m+k) X W a.drew:=x;clear t A o f c j d g;obtain⟨f,c,j,d,g⟩:=x.cell;rw[show((i+m+k:Nat):Int)=(i:Int)+(m:Int)+(k:Int)by omega]at c;rcases z with z|⟨aa,z⟩
    all_goals
     go_wp2_with fail
     go_region_with (go_at_call 226;refine(J _ P ad).mono ?_;rintro e u ⟨N,n,rfl,C,E⟩;have M:Hid (ca Y w u):=ca.trans (ca.trans y.out ((ce Y a).drewN 1)) E;have O:Hid (CD Y s (i+m+k) X W u):=C;clear E C)
     all_goals
      go_wp2_with fail
      refine(F u).mono ?_;rintro e w4 ⟨rfl,rfl⟩;clear F;go_wp2;refine⟨rfl,?_,M.out⟩;rw[G.out];exact⟨rfl,_,O.out⟩
   ·have G:Hid (di (b9 s i)=.error (3,0)):=by rw[if_pos hT]at I;exact I
    have J:=fun b H=>zS Y s (i+m+k) X W b Z U H v K
    rw[<-L]at J;clear I K L U ag;rcases hv with hv|hv
    ·go_enter func210,ntmps210
     go_wp2_with fail
     refine B.mono ?_;rintro e q ⟨rfl,p,l⟩;have o:Hid (ca Y w q):=l;clear l B f c j d g;obtain⟨f,c,j,d,g⟩:=p.cell;go_wp2_with fail
     refine(A q p).mono ?_;rintro e a ⟨rfl,x,t⟩;have y:Hid (ca Y w a):=o.out.trans t;have Q:GV a:=hG.onl y.out ac h.lt;have ad:GV a.drew:=Q.kept (fun _ _=>rfl);have P:CD Y s (i+m+k) X W a.drew:=x;clear t A o f c j d g;obtain⟨f,c,j,d,g⟩:=x.cell;rw[show((i+m+k:Nat):Int)=(i:Int)+(m:Int)+(k:Int)by omega]at c;rcases z with z|⟨aa,z⟩
     all_goals
      go_wp2_with fail
      go_region_with (go_at_call 226;refine(J _ P).mono ?_;rintro e u ⟨rfl,C,E⟩;have M:Hid (ca Y w u):=ca.trans (ca.trans y.out ((ce Y a).drewN 1)) E;have O:Hid (CD Y s (i+m+k) X W u):=C;clear E C)
      all_goals
       go_wp2_with fail
       refine(F u).mono ?_;rintro e w4 ⟨rfl,rfl⟩;clear F;go_wp2;refine⟨rfl,?_,M.out⟩;rw[G.out];exact⟨rfl,_,O.out⟩
    ·have av:¬v< -9007199254740991:=by omega
     go_enter func210,ntmps210;go_wp2_with fail
     refine B.mono ?_;rintro e q ⟨rfl,p,l⟩;have o:Hid (ca Y w q):=l;clear l B f c j d g;obtain⟨f,c,j,d,g⟩:=p.cell;go_wp2_with fail
     refine(A q p).mono ?_;rintro e a ⟨rfl,x,t⟩;have y:Hid (ca Y w a):=o.out.trans t;have Q:GV a:=hG.onl y.out ac h.lt;have ad:GV a.drew:=Q.kept (fun _ _=>rfl);have P:CD Y s (i+m+k) X W a.drew:=x;clear t A o f c j d g;obtain⟨f,c,j,d,g⟩:=x.cell;rw[show((i+m+k:Nat):Int)=(i:Int)+(m:Int)+(k:Int)by omega]at c;rcases z with z|⟨aa,z⟩
     all_goals
      go_wp2_with fail
      go_region_with (go_at_call 226;refine(J _ P).mono ?_;rintro e u ⟨rfl,C,E⟩;have M:Hid (ca Y w u):=ca.trans (ca.trans y.out ((ce Y a).drewN 1)) E;have O:Hid (CD Y s (i+m+k) X W u):=C;clear E C)
      all_goals
       go_wp2_with fail
       refine(F u).mono ?_;rintro e w4 ⟨rfl,rfl⟩;clear F;go_wp2;refine⟨rfl,?_,M.out⟩;rw[G.out];exact⟨rfl,_,O.out⟩
theorem tX(s:dv)(a b:Nat)(h:a<=b):(s.extract a b).data.toList=(b9 s a).take (b-a):=by rw[dd];rfl
theorem GT(d:s.size<=140737488340000)(g:9<=Y)(h:CD Y s i X W w)(j:GV w)(f:i<s.size):Calls prog 210 #[.pointer (some ⟨Y,0,none⟩)] w fun r l=>CI Y s i X W (di (b9 s i)) r l/\ca Y w l:=by
 by_cases b:(b9 s i).head?=some 45
 ·have m:s[i]=45:=by rw[cg s i f]at b;simpa using b
  have k:b9 s i=45::b9 s (i+1):=by rw[cg s i f,m]
  have a:=fQ Y s i X W 45 w (by omega) h b;rw[show((45:UInt8).toNat:Int)=45 from rfl]at a;have c:=oQ (b9 s (i+1));rw[cx]at c;refine rc Y s i X W w d g h j 1 (nd (b9 s (i+1))) (accN 0 ((b9 s (i+1)).take (nd (b9 s (i+1))))) (-(accN 0 ((b9 s (i+1)).take (nd (b9 s (i+1)))):Int)) true (by omega) rfl a (l0 k) (by unfold cH;omega) ?_;intro n;rw[tX s i _ (by omega),k,show i+1+nd (b9 s (i+1))-i=nd (b9 s (i+1))+1 by omega,LW];refine Aw _ ?_ (zH _);intro e;have:=KV List.length e;rw[J6,cx]at this;simp at this;omega
 ·have a:=gt Y s i X W 45 w h (by omega) (by decide) b
  rw[show((45:UInt8).toNat:Int)=45 from rfl]at a;have c:=oQ (b9 s i);rw[cx]at c;refine rc Y s i X W w d g h j 0 (nd (b9 s i)) (accN 0 ((b9 s i).take (nd (b9 s i)))) (accN 0 ((b9 s i).take (nd (b9 s i))):Int) false (by omega) rfl a (lX b) (by unfold cH;omega) ?_;intro n;rw[tX s i _ (by omega),show i+0+nd (b9 s i)-i=nd (b9 s i)by omega];refine Co _ ?_ (zH _);intro e;have:=KV List.length e;rw[J6,cx]at this;simp at this;omega
end
end Go.Proofs.YtihboehpeehlmaaGreatDoor
