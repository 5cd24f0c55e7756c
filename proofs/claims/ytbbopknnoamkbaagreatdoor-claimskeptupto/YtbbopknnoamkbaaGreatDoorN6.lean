import Derived.Test.YtbbopknnoamkbaaGreatDoorG1
import Derived.Test.YtbbopknnoamkbaaGreatDoorN5
import Derived.WalkSpells
set_option maxHeartbeats 2000000
set_option maxRecDepth 40000
namespace Go.Proofs.YtbbopknnoamkbaaGreatDoor
open Go.RowKit
set_option linter.unusedVariables false
section
attribute [local go_sem] conv1
theorem rdecP(x:Int)(w:World)(c:UInt8)(h0:0≤x)(h1:x<10)(hc:48+x=(c.toNat:Int)):Calls Tryz.prog 26 #[.int .i64 x] w fun e w'=>e=.returned (.string ⟨#[c]⟩)∧Below w.heap.size w w':=by
 have d0:decide (x<0)=false:=by simp;omega
 go_enter Tryz.func26,Tryz.ntmps26;go_wp2;go_ret;exact⟨rfl,bal (brf _) _⟩
theorem rdecPP(x y:Int)(w:World)(c:UInt8)(T:ByteArray)(h0:10≤x)(h1:x≤9223372036854775807)(hy:x/10=y)(hc:48+x%10=(c.toNat:Int))(hT:T.size≤1000)(hr:∀w,Calls Tryz.prog 26 #[.int .i64 y] w fun e w'=>e=.returned (.string T)∧Below w.heap.size w w'):Calls Tryz.prog 26 #[.int .i64 x] w fun e w'=>e=.returned (.string (T++⟨#[c]⟩))∧Below w.heap.size w w':=by
 have d0:decide (x<0)=false:=by simp;omega
 have d1:decide (x<10)=false:=by simp;omega
 go_enter Tryz.func26,Tryz.ntmps26;go_wp2_with fail
 refine(hr _).mono ?_;rintro e w1 ⟨rfl,b1⟩;have B1:Hid (Below w.heap.size w w1):=b1;clear b1 hr;go_wp2;go_ret;exact⟨rfl,(B1.out).alloc B1.out.size _⟩
theorem rdecM(x:Int)(w:World)(c:UInt8)(h0: -10<x)(h1:x<0)(hc:48-x=(c.toNat:Int)):Calls Tryz.prog 26 #[.int .i64 x] w fun e w'=>e=.returned (.string ⟨#[45,c]⟩)∧Below w.heap.size w w':=by
 go_enter Tryz.func26,Tryz.ntmps26;go_wp2;go_ret;exact⟨rfl,bal (brf _) _⟩
theorem rdecMM(x y:Int)(w:World)(c:UInt8)(T:ByteArray)(h0:x≤ -10)(h1: -9223372036854775808≤x)(hy:x.tdiv 10=y)(hyb: -922337203685477580≤y∧y≤0)(z:Int)(hz:x.tmod 10=z)(hzb: -10<z∧z≤0)(hc:48-z=(c.toNat:Int))(hT:T.size≤1000)(hr:∀w,Calls Tryz.prog 26 #[.int .i64 y] w fun e w'=>e=.returned (.string T)∧Below w.heap.size w w'):Calls Tryz.prog 26 #[.int .i64 x] w fun e w'=>e=.returned (.string (T++⟨#[c]⟩))∧Below w.heap.size w w':=by
 have d0:x<0:=by omega
 have d1:decide (-10<x)=false:=by simp;omega
 obtain⟨y1,y2⟩:=hyb;obtain⟨z1,z2⟩:=hzb;go_enter Tryz.func26,Tryz.ntmps26;go_wp2_with fail
 refine(hr _).mono ?_;rintro e w1 ⟨rfl,b1⟩;have B1:Hid (Below w.heap.size w w1):=b1;clear b1 hr;go_wp2;go_ret;exact⟨rfl,(B1.out).alloc B1.out.size _⟩
end
theorem rdec_nat:∀(m:Nat),m≤9223372036854775807→∀w,Calls Tryz.prog 26 #[.int .i64 (m:Int)] w fun e w'=>e=.returned (.string ⟨(decN m).toArray⟩)∧Below w.heap.size w w':=by
 intro m;induction m using Nat.strongRecOn with
 | ind m ih=>
   intro hm w;by_cases h:m<10
   ·rw[decN_small m h]
    exact rdecP m w _ (by omega) (by omega) (byte_of _ (48+m) (by omega) (by omega))
   ·rw[decN_big m (by omega),←arr_snoc]
    refine rdecPP m ((m/10:Nat):Int) w _ _ (by omega) (by omega) (by omega) (byte_of _ (48+m%10) (by omega) (by omega)) ?_ (ih (m/10) (by omega) (by omega));have:=decN_le (n:=m/10) (by omega);show(decN (m/10)).toArray.size≤1000
    simp;omega
theorem rdec_neg:∀(m:Nat),1≤m→m≤9223372036854775808→∀w,Calls Tryz.prog 26 #[.int .i64 (-(m:Int))] w fun e w'=>e=.returned (.string ⟨(45::decN m).toArray⟩)∧Below w.heap.size w w':=by
 intro m;induction m using Nat.strongRecOn with
 | ind m ih=>
   intro h1 hm w;by_cases h:m<10
   ·rw[decN_small m h]
    exact rdecM (-(m:Int)) w _ (by omega) (by omega) (byte_of _ (48+m) (by omega) (by omega))
   ·rw[decN_big m (by omega),←List.cons_append,←arr_snoc]
    have e1:(-(m:Int)).tdiv 10= -((m/10:Nat):Int):=by rw[Int.neg_tdiv];rfl
    have e2:(-(m:Int)).tmod 10= -((m%10:Nat):Int):=by rw[Int.neg_tmod];rfl
    refine rdecMM (-(m:Int)) (-((m/10:Nat):Int)) w _ _ (by omega) (by omega) e1 (by omega) (-((m%10:Nat):Int)) e2 (by omega) (byte_of _ (48+m%10) (by omega) (by omega)) ?_ (ih (m/10) (by omega) (by omega) (by omega));have:=decN_le (n:=m/10) (by omega);show(45::decN (m/10)).toArray.size≤1000
    simp;omega
theorem rdecimal(n:Int)(h1: -9223372036854775808≤n)(h2:n≤9223372036854775807)(w:World):Calls Tryz.prog 26 #[.int .i64 n] w fun e w'=>e=.returned (.string ⟨(decI n).toArray⟩)∧Below w.heap.size w w':=by
 unfold decI;by_cases h:n<0
 ·rw[if_pos h]
  have:=rdec_neg (-n).toNat (by omega) (by omega) w;rwa [show(-(((-n).toNat:Nat):Int))=n by omega]at this
 ·rw[if_neg h]
  have:=rdec_nat n.toNat (by omega) w;rwa [show((n.toNat:Nat):Int)=n by omega]at this
theorem rmembers(B:Nat)(v:Value)(L:List Nd)(w:World)(hN:Nodes B 87 v L w)(o:Nat)(n:Nd)(hn:L[o]?=some n)(hks:∀k∈n.kids,k<L.length)(hb:L.length≤1000000)(hkb:n.kids.length≤1000000)(hkey:∀(k:Nat) (m:Nd),L[k]?=some m→m.key.length≤1000000000):Calls Tryz.prog 71 #[v,.int .i64 (o:Int)] w fun e w'=>∃v',e=.returned v'∧w'.ownsRow w.heap.size 3 1 v' n.kids.length ((srt (ltK L) n.kids).map iV)∧Below w.heap.size w w':=by
 obtain⟨i0,hi0,hz0,hz1,hz2⟩:=info_parts intinfo;have HI:Hid _:=hi0;clear hi0;have hol:o<L.length:=(List.getElem?_eq_some_iff.1 hn).1;obtain⟨g,cap,rfl⟩:∃g cap,v=.slice (some ⟨g,0,none⟩) L.length cap:=by
  obtain⟨kvs,k1,k2,k3,k4⟩:=hN;rcases k2.2 with⟨_,h⟩|⟨g,c,cu,a,_⟩
  ·omega
  ·exact⟨g,c,a⟩
 have q1:=hN.cells.1;obtain⟨kv,hck,hkr⟩:=hN.kidrow o n hn;have ho':(o:Int)<(L.length:Int):=by omega
 have HKR:Hid (w.ownsRow B 3 1 kv n.kids.length (n.kids.map iV)):=hkr;have HQ1:Hid (∀u n,L[u]?=some n→w.cell? ⟨g,u*6+1,none⟩=some (.string ⟨n.key.toArray⟩)):=q1;have HKS:Hid (∀k∈n.kids,k<L.length):=hks;have HKEY:Hid (∀(k:Nat) (m:Nd),L[k]?=some m→m.key.length≤1000000000):=hkey;clear q1 hkr hN hn hks hkey;generalize n.kids=ks at *;clear n;go_enter Tryz.func71,Tryz.ntmps71;go_wp2_with (refine wp_copy rfl (.tmp 9) (.tmp 14) 40 rfl 3 i0 Tryz.underlying40 HI.out hz0 hz1 hz2 B kv ks w rfl rfl HKR.out (by omega) ?_;intro v1 w1 ho1 hb1;have W1:Hid _:=ho1;have B1:Hid _:=hb1;clear ho1 hb1)
 have hsh:=IRow.of W1.out;obtain⟨ad,cap5,rfl,hsh⟩:=hsh;clear hsh;go_loopw [6] (fun iv wr=>∃i:Nat,1≤i∧(i≤ks.length∨i=1)∧iv=.int .i64 (i:Int)∧wr.ownsRow w.heap.size 3 1 (.slice ad ks.length cap5) ks.length ((srt (ltK L) (ks.take i)++ks.drop i).map iV)∧Below w.heap.size w wr) (fun iv _=>ks.length-(intOf iv).toNat)
 case atStart=>
  refine⟨1,by omega,.inr rfl,rfl,?_,B1.out⟩;have e:srt (ltK L) (ks.take 1)++ks.drop 1=ks:=by
   cases ks with
   | nil=>rfl
   | cons x r=>simp[srt,insL,insR]
  rw[e];exact W1.out
 case round=>
  clear W1 B1;obtain⟨i,hi1,hi2,rfl,hrow,hbl⟩:=hrel;by_cases hlt:i<ks.length
  ·have hlt':(i:Int)<(ks.length:Int):=by omega
   obtain⟨g5,rfl⟩:∃g5,ad=some ⟨g5,0,none⟩:=by
    rcases hrow.2 with⟨_,h⟩|⟨g',c',_,e,_⟩
    ·omega
    ·injection e with e1 _ _;exact⟨g',e1⟩
   have R0:Hid (wr.ownsRow w.heap.size 3 1 (.slice (some ⟨g5,0,none⟩) ks.length cap5) ks.length ((srt (ltK L) (ks.take i)++ks.drop i).map iV)):=hrow;have B0:Hid (Below w.heap.size w wr):=hbl;clear hrow hbl;go_wp2_with fail
   go_loopw [7] (fun kv wx=>∃P S:List Nat,kv=.int .i64 (P.length:Int)∧P.length+S.length=i∧insL (ltK L) (srt (ltK L) (ks.take i)) ks[i]=insL (ltK L) P ks[i]++S∧(∀k∈P,k∈ks)∧wx.ownsRow w.heap.size 3 1 (.slice (some ⟨g5,0,none⟩) ks.length cap5) ks.length ((P++ks[i]::(S++ks.drop (i+1))).map iV)∧Below w.heap.size w wx) (fun kv _=>(intOf kv).toNat)
   case atStart=>
    have hl:(srt (ltK L) (ks.take i)).length=i:=by rw[srt_len,List.length_take];omega
    refine⟨srt (ltK L) (ks.take i),[],by rw[hl],by simp[hl],by simp,fun k hk=>List.mem_of_mem_take (srt_mem _ _ _ hk),?_,B0.out⟩;have:=R0.out;rw[List.drop_eq_getElem_cons hlt]at this;exact this
   case round=>
    clear R0 B0;obtain⟨P,S,rfl,hPS,hins,hmem,hrow,hbl⟩:=hrel;have hxm:ks[i]∈ks:=List.getElem_mem hlt;have hcc:P=[]∨∃P' y,P=P'++[y]:=by
     rcases List.eq_nil_or_concat P with h|⟨P',y,h⟩
     ·exact .inl h
     ·exact .inr ⟨P',y,by simpa using h⟩
    rcases hcc with rfl|⟨P',y,hP⟩
    ·go_wp2_with fail
     go_quiet (fail);have hS:S.length=i:=by simpa using hPS
     have HN:Hid (srt (ltK L) (ks.take (i+1))++ks.drop (i+1)=[]++ks[i]::(S++ks.drop (i+1))):=by
      show _=_
      rw[List.take_succ_eq_append_getElem hlt,srt_snoc,hins,insL_nil];simp
     have R1:Hid (wr.ownsRow w.heap.size 3 1 (.slice (some ⟨g5,0,none⟩) ks.length cap5) ks.length (([]++ks[i]::(S++ks.drop (i+1))).map iV)):=hrow;have B1:Hid (Below w.heap.size w wr):=hbl;clear hrow hbl hins hPS;go_wp2_with fail
     go_roundw
     case rel=>exact⟨i+1,by omega,.inl (by omega),by go_num,by rw[HN.out];exact ownsRow_sub R1.out (fun _ _ _=>rfl),bdN B1.out nq⟩
     case measure=>simp[intOf];omega
    ·obtain⟨p,hp⟩:∃p,P.length=p:=⟨_,rfl⟩
     rw[hp];rw[hp]at hPS;subst hP;obtain⟨x,hx⟩:∃x,ks[i]=x:=⟨_,rfl⟩;rw[hx]at hins hrow hxm;have HX:Hid (ks[i]=x):=hx;clear hx;have hym:y∈ks:=hmem y (by simp);have hxl:=HKS.out x hxm;have hyl:=HKS.out y hym;obtain⟨nx,hnx⟩:∃m,L[x]?=some m:=⟨_,List.getElem?_eq_getElem hxl⟩;obtain⟨ny,hny⟩:∃m,L[y]?=some m:=⟨_,List.getElem?_eq_getElem hyl⟩;have kx:=cell_keep hbl (HQ1.out x nx hnx);have ky:=cell_keep hbl (HQ1.out y ny hny);have hA:∀W,Calls Tryz.prog 25 #[.string ⟨nx.key.toArray⟩,.string ⟨ny.key.toArray⟩] W fun e w'=>e=.returned (.bool (ltK L x y))∧Below W.heap.size W w':=fun W=>by
      have h1:=HKEY.out x nx hnx;have h2:=HKEY.out y ny hny;have:=rahead ⟨nx.key.toArray⟩ ⟨ny.key.toArray⟩ W (by show nx.key.toArray.size≤_;simpa using h1) (by show ny.key.toArray.size≤_;simpa using h2);unfold ltK;rw[keyL_of hnx,keyL_of hny];simpa using this
     have hxl':(x:Int)<(L.length:Int):=by omega
     have hyl':(y:Int)<(L.length:Int):=by omega
     obtain⟨ad',cap',e5,c5⟩:=IRow.of (us:=P'++[y]++x::(S++ks.drop (i+1))) (e:=3) (B:=w.heap.size) (w:=wr) (v:=.slice (some ⟨g5,0,none⟩) ks.length cap5) (by
      have:(P'++[y]++x::(S++ks.drop (i+1))).length=ks.length:=by simp at hp hPS ⊢;omega
      rw[this];exact hrow)
     obtain⟨g',eg,cx⟩:=c5 (P'.length+1) x (by simp);obtain⟨g'',eg',cy⟩:=c5 P'.length y (by simp);injection e5 with e5 z1 z2;clear z1 z2;rw[←e5]at eg eg';injection eg with eg;injection eg with eg z1 z2;clear z1 z2;subst eg;injection eg' with eg';injection eg' with eg' z1 z2;clear z1 z2;subst eg';clear c5 e5;have hlen:(P'++[y]).length=P'.length+1:=by simp
     rw[hlen]at hp;obtain⟨q,hq⟩:∃q,P'.length=q:=⟨_,rfl⟩;rw[hp]at cx;rw[hq]at cy;have hpq:(p:Int)-1=(q:Int):=by omega
     have hp0:(0:Int)<(p:Int):=by omega
     have hpw:IntKind.i64.wrap ((p:Int)-1)=(q:Int):=by rw[i64w _ (by omega)];omega
     have hp0n:decide (0<p)=true:=by simp;omega
     have hp0m:0<p:=by omega
     have hpl:(p:Int)<(ks.length:Int):=by omega
     have hql:(q:Int)<(ks.length:Int):=by omega
     have HF:Hid (P'.length=q∧q+1=p∧p+S.length=i):=⟨hq,by omega,hPS⟩;have HINS:Hid _:=hins;have HMEM:Hid (∀k∈P'++[y],k∈ks):=hmem;have HROW:Hid (wr.ownsRow w.heap.size 3 1 (.slice (some ⟨g5,0,none⟩) ks.length cap5) ks.length ((P'++[y]++x::(S++ks.drop (i+1))).map iV)):=hrow;have HBL:Hid (Below w.heap.size w wr):=hbl;have hbs:=hbl.size;clear hp hq hPS hins hmem hrow hbl hxm hym hnx hny hlen hxl hyl;cases hc:ltK L x y with
     | false=>
       rw[hc]at hA;have HC:Hid (ltK L x y=false):=hc;clear hc;have HCS:Hid (wr.cell? ⟨g5,p,none⟩=some (.int .i64 (x:Int))∧wr.cell? ⟨g5,q,none⟩=some (.int .i64 (y:Int))∧wr.cell? ⟨g,x*6+1,none⟩=some (.string ⟨nx.key.toArray⟩)∧wr.cell? ⟨g,y*6+1,none⟩=some (.string ⟨ny.key.toArray⟩)):=⟨cx,cy,kx,ky⟩;go_wp2_with fail
       have HPQ:Hid _:=hpq;clear hpq;have hq0:(0:Int)≤(q:Int):=by omega
       go_region_held3 (fun w'=>w'.cell? ⟨g5,p,none⟩=some (.int .i64 (x:Int))∧w'.cell? ⟨g5,q,none⟩=some (.int .i64 (y:Int))∧w'.cell? ⟨g,x*6+1,none⟩=some (.string ⟨nx.key.toArray⟩)∧w'.cell? ⟨g,y*6+1,none⟩=some (.string ⟨ny.key.toArray⟩)) (go_keep) (first|(go_at_call 25;refine(hA _).mono ?_;rintro e w3 ⟨rfl,b3⟩;have s0:=cell_keep b3 HCS.out.1;have s1:=cell_keep b3 HCS.out.2.1;have s2:=cell_keep b3 HCS.out.2.2.1;have s3:=cell_keep b3 HCS.out.2.2.2;have B3:Hid _:=b3;clear b3))
       have R3:Hid (w3.ownsRow w.heap.size 3 1 (.slice (some ⟨g5,0,none⟩) ks.length cap5) ks.length ((P'++[y]++x::(S++ks.drop (i+1))).map iV)):=ownsRow_sub HROW.out (fun g' _ h'=>B3.out.block g' h');have B4:Hid (Below w.heap.size w w3):=HBL.out.trans ⟨B3.out.os,B3.out.tape,B3.out.output,B3.out.size,fun k hk=>B3.out.block k (Nat.lt_of_lt_of_le hk hbs)⟩;clear HBL B3 HCS HROW hA cx cy kx ky;have HN:Hid (srt (ltK L) (ks.take (i+1))++ks.drop (i+1)=P'++[y]++x::(S++ks.drop (i+1))):=by
        show _=_
        rw[List.take_succ_eq_append_getElem hlt,srt_snoc,HX.out,HINS.out,insL_stop _ _ _ _ HC.out];simp
       go_wp2_with fail
       go_roundw
       case rel=>exact⟨i+1,by omega,.inl (by omega),by go_num,by rw[HN.out];exact R3.out,B4.out⟩
       case measure=>simp[intOf];omega
     | true=>
       rw[hc]at hA;have HC:Hid (ltK L x y=true):=hc;clear hc;have HCS:Hid (wr.cell? ⟨g5,p,none⟩=some (.int .i64 (x:Int))∧wr.cell? ⟨g5,q,none⟩=some (.int .i64 (y:Int))∧wr.cell? ⟨g,x*6+1,none⟩=some (.string ⟨nx.key.toArray⟩)∧wr.cell? ⟨g,y*6+1,none⟩=some (.string ⟨ny.key.toArray⟩)):=⟨cx,cy,kx,ky⟩;go_wp2_with fail
       have HPQ:Hid _:=hpq;clear hpq;have hq0:(0:Int)≤(q:Int):=by omega
       go_region_held3 (fun w'=>w'.cell? ⟨g5,p,none⟩=some (.int .i64 (x:Int))∧w'.cell? ⟨g5,q,none⟩=some (.int .i64 (y:Int))∧w'.cell? ⟨g,x*6+1,none⟩=some (.string ⟨nx.key.toArray⟩)∧w'.cell? ⟨g,y*6+1,none⟩=some (.string ⟨ny.key.toArray⟩)) (go_keep) (first|(go_at_call 25;refine(hA _).mono ?_;rintro e w3 ⟨rfl,b3⟩;have s0:=cell_keep b3 HCS.out.1;have s1:=cell_keep b3 HCS.out.2.1;have s2:=cell_keep b3 HCS.out.2.2.1;have s3:=cell_keep b3 HCS.out.2.2.2;have B3:Hid _:=b3;clear b3))
       have R3:Hid (w3.ownsRow w.heap.size 3 1 (.slice (some ⟨g5,0,none⟩) ks.length cap5) ks.length ((P'++[y]++x::(S++ks.drop (i+1))).map iV)):=ownsRow_sub HROW.out (fun g' _ h'=>B3.out.block g' h');have B4:Hid (Below w.heap.size w w3):=HBL.out.trans ⟨B3.out.os,B3.out.tape,B3.out.output,B3.out.size,fun k hk=>B3.out.block k (Nat.lt_of_lt_of_le hk hbs)⟩;clear HBL B3 HCS HROW hA cx cy kx ky;have hpn:p<ks.length:=by omega
       have hqn:q<ks.length:=by omega
       obtain⟨r4,b4,f4,z4⟩:=rowSet (.int .i64 (y:Int)) R3.out hpn;obtain⟨r5,b5,f5,z5⟩:=rowSet (.int .i64 (x:Int)) r4 hqn;have hlist:((((P'++[y]++x::(S++ks.drop (i+1))).map iV).set p (.int .i64 (y:Int))).set q (.int .i64 (x:Int)))=(P'++x::(y::S++ks.drop (i+1))).map iV:=by
        obtain⟨e1,e2,_⟩:=HF.out;subst e2;subst e1;simp[iV]
       rw[hlist]at r5;have R5:Hid _:=r5;have B5:Hid _:=B4.out.trans (b4.trans b5);obtain⟨v5,c5⟩:=Option.isSome_iff_exists.1 z5;clear r4 b4 r5 b5 z4 z5 hlist R3 B4;have hpq:=HPQ.out;go_wp2_with fail
       go_roundw
       case rel=>
        refine⟨P',y::S,?_,?_,?_,?_,?_,B5.out⟩
        ·rw[HF.out.1]
        ·have:=HF.out;simp;omega
        ·rw[HX.out,HINS.out,insL_go _ _ _ _ HC.out];simp
        ·intro k hk;exact HMEM.out k (by simp[hk])
        ·rw[HX.out];exact R5.out
       case measure=>have:=HF.out;simp[intOf];omega
  ·go_wp2_with fail
   go_ret;refine⟨_,rfl,?_,hbl⟩;have e:srt (ltK L) (ks.take i)++ks.drop i=srt (ltK L) ks:=by rw[List.take_of_length_le (by omega),List.drop_of_length_le (by omega),List.append_nil]
   rw[←e];exact hrow
theorem rform0(B:Nat)(g cap:Nat)(L:List Nd)(w:World)(hN:Nodes B 87 (.slice (some ⟨g,0,none⟩) L.length cap) L w)(o:Nat)(n:Nd)(hn:L[o]?=some n)(hb:L.length≤1000000)(hk:n.kind=0):Calls Tryz.prog 38 #[.slice (some ⟨g,0,none⟩) L.length cap,.int .i64 (o:Int)] w fun e w'=>e=.returned (.string ⟨#[110,117,108,108]⟩)∧Below w.heap.size w w':=by
 have hol:o<L.length:=(List.getElem?_eq_some_iff.1 hn).1;have ho':(o:Int)<(L.length:Int):=by omega
 obtain⟨kv,h6,hkr⟩:=hN.six o n hn;have c0:w.cell? ⟨g,o*6,none⟩=some (.int .i64 0):=by have:=h6 0 _ rfl;rw[hk]at this;exact this
 have c1:=h6 1 _ rfl;have c2:=h6 2 _ rfl;have c3:=h6 3 _ rfl;have c4:=h6 4 _ rfl;have c5:=h6 5 _ rfl;clear h6 hN hn hk;obtain⟨adk,capk,rfl,hc⟩:=IRow.of hkr;clear hkr hc;go_enter Tryz.func38,Tryz.ntmps38;go_wp2;go_ret;exact⟨rfl,bal (brf _) _⟩
theorem rform1(B:Nat)(g cap:Nat)(L:List Nd)(w:World)(hN:Nodes B 87 (.slice (some ⟨g,0,none⟩) L.length cap) L w)(o:Nat)(n:Nd)(hn:L[o]?=some n)(hb:L.length≤1000000)(hk:n.kind=1)(h1:n.num=1):Calls Tryz.prog 38 #[.slice (some ⟨g,0,none⟩) L.length cap,.int .i64 (o:Int)] w fun e w'=>e=.returned (.string ⟨#[116,114,117,101]⟩)∧Below w.heap.size w w':=by
 have hol:o<L.length:=(List.getElem?_eq_some_iff.1 hn).1;have ho':(o:Int)<(L.length:Int):=by omega
 obtain⟨kv,h6,hkr⟩:=hN.six o n hn;have c0:w.cell? ⟨g,o*6,none⟩=some (.int .i64 1):=by have:=h6 0 _ rfl;rw[hk]at this;exact this
 have c1:=h6 1 _ rfl;have c2:=h6 2 _ rfl;have c3:=h6 3 _ rfl;have c4:=h6 4 _ rfl;have c5:=h6 5 _ rfl;clear h6 hN hn hk;obtain⟨adk,capk,rfl,hc⟩:=IRow.of hkr;clear hkr hc;rw[h1]at c3;clear h1;go_enter Tryz.func38,Tryz.ntmps38;go_wp2;go_ret;exact⟨rfl,bal (brf _) _⟩
theorem rform2(B:Nat)(g cap:Nat)(L:List Nd)(w:World)(hN:Nodes B 87 (.slice (some ⟨g,0,none⟩) L.length cap) L w)(o:Nat)(n:Nd)(hn:L[o]?=some n)(hb:L.length≤1000000)(hk:n.kind=1)(h1:n.num=0):Calls Tryz.prog 38 #[.slice (some ⟨g,0,none⟩) L.length cap,.int .i64 (o:Int)] w fun e w'=>e=.returned (.string ⟨#[102,97,108,115,101]⟩)∧Below w.heap.size w w':=by
 have hol:o<L.length:=(List.getElem?_eq_some_iff.1 hn).1;have ho':(o:Int)<(L.length:Int):=by omega
 obtain⟨kv,h6,hkr⟩:=hN.six o n hn;have c0:w.cell? ⟨g,o*6,none⟩=some (.int .i64 1):=by have:=h6 0 _ rfl;rw[hk]at this;exact this
 have c1:=h6 1 _ rfl;have c2:=h6 2 _ rfl;have c3:=h6 3 _ rfl;have c4:=h6 4 _ rfl;have c5:=h6 5 _ rfl;clear h6 hN hn hk;obtain⟨adk,capk,rfl,hc⟩:=IRow.of hkr;clear hkr hc;rw[h1]at c3;clear h1;go_enter Tryz.func38,Tryz.ntmps38;go_wp2;go_ret;exact⟨rfl,bal (brf _) _⟩
theorem rform3(B:Nat)(g cap:Nat)(L:List Nd)(w:World)(hN:Nodes B 87 (.slice (some ⟨g,0,none⟩) L.length cap) L w)(o:Nat)(n:Nd)(hn:L[o]?=some n)(hb:L.length≤1000000)(hk:n.kind=2)(h1: -9223372036854775808≤n.num)(h2:n.num≤9223372036854775807):Calls Tryz.prog 38 #[.slice (some ⟨g,0,none⟩) L.length cap,.int .i64 (o:Int)] w fun e w'=>e=.returned (.string ⟨(decI n.num).toArray⟩)∧Below w.heap.size w w':=by
 have hol:o<L.length:=(List.getElem?_eq_some_iff.1 hn).1;have ho':(o:Int)<(L.length:Int):=by omega
 obtain⟨kv,h6,hkr⟩:=hN.six o n hn;have c0:w.cell? ⟨g,o*6,none⟩=some (.int .i64 2):=by have:=h6 0 _ rfl;rw[hk]at this;exact this
 have c1:=h6 1 _ rfl;have c2:=h6 2 _ rfl;have c3:=h6 3 _ rfl;have c4:=h6 4 _ rfl;have c5:=h6 5 _ rfl;clear h6 hN hn hk;obtain⟨adk,capk,rfl,hc⟩:=IRow.of hkr;clear hkr hc;have hd:=rdecimal n.num h1 h2;clear h1 h2;go_enter Tryz.func38,Tryz.ntmps38;go_wp2_with fail
 refine(hd _).mono ?_;rintro e w1 ⟨rfl,b1⟩;have B1:Hid (Below w.heap.size w w1):=(bal (brf w) _).trans ⟨b1.os,b1.tape,b1.output,b1.size,fun k hk=>b1.block k (by simp;omega)⟩;clear b1;go_wp2;go_ret;exact⟨rfl,B1.out⟩
theorem rform4(B:Nat)(g cap:Nat)(L:List Nd)(w:World)(hN:Nodes B 87 (.slice (some ⟨g,0,none⟩) L.length cap) L w)(o:Nat)(n:Nd)(hn:L[o]?=some n)(hb:L.length≤1000000)(hk:n.kind=3)(h1:n.text.length≤1000000000):Calls Tryz.prog 38 #[.slice (some ⟨g,0,none⟩) L.length cap,.int .i64 (o:Int)] w fun e w'=>e=.returned (.string ⟨(strT n.text).toArray⟩)∧Below w.heap.size w w':=by
 have hol:o<L.length:=(List.getElem?_eq_some_iff.1 hn).1;have ho':(o:Int)<(L.length:Int):=by omega
 obtain⟨kv,h6,hkr⟩:=hN.six o n hn;have c0:w.cell? ⟨g,o*6,none⟩=some (.int .i64 3):=by have:=h6 0 _ rfl;rw[hk]at this;exact this
 have c1:=h6 1 _ rfl;have c2:=h6 2 _ rfl;have c3:=h6 3 _ rfl;have c4:=h6 4 _ rfl;have c5:=h6 5 _ rfl;clear h6 hN hn hk;obtain⟨adk,capk,rfl,hc⟩:=IRow.of hkr;clear hkr hc;have hd:∀W,Calls Tryz.prog 24 #[.string ⟨n.text.toArray⟩] W fun e w'=>e=.returned (.string ⟨(strT n.text).toArray⟩)∧Below W.heap.size W w':=fun W=>by simpa using rstrT ⟨n.text.toArray⟩ W (by show n.text.toArray.size≤_;simpa using h1)
 clear h1;go_enter Tryz.func38,Tryz.ntmps38;go_wp2_with fail
 refine(hd _).mono ?_;rintro e w1 ⟨rfl,b1⟩;have B1:Hid (Below w.heap.size w w1):=(bal (brf w) _).trans ⟨b1.os,b1.tape,b1.output,b1.size,fun k hk=>b1.block k (by simp;omega)⟩;clear b1;go_wp2;go_ret;exact⟨rfl,B1.out⟩
theorem rformA(B:Nat)(g cap:Nat)(L:List Nd)(w:World)(hN:Nodes B 87 (.slice (some ⟨g,0,none⟩) L.length cap) L w)(o:Nat)(n:Nd)(hn:L[o]?=some n)(hb:L.length≤1000000)(hk:n.kind=4)(hkb:n.kids.length≤1000000)(f:Nat→List UInt8)(hf:∀k∈n.kids,∀W,Below w.heap.size w W→Calls Tryz.prog 38 #[.slice (some ⟨g,0,none⟩) L.length cap,.int .i64 (k:Int)] W fun e w'=>e=.returned (.string ⟨(f k).toArray⟩)∧Below W.heap.size W w')(hfb:∀j,j≤n.kids.length→(bodyTo f n.kids j).length≤1000000000)(hff:∀k∈n.kids,(f k).length≤1000000000):Calls Tryz.prog 38 #[.slice (some ⟨g,0,none⟩) L.length cap,.int .i64 (o:Int)] w fun e w'=>e=.returned (.string ⟨(91::bodyTo f n.kids n.kids.length++[93]).toArray⟩)∧Below w.heap.size w w':=by
 have hol:o<L.length:=(List.getElem?_eq_some_iff.1 hn).1;have ho':(o:Int)<(L.length:Int):=by omega
 obtain⟨kv,h6,hkr⟩:=hN.six o n hn;have c0:w.cell? ⟨g,o*6,none⟩=some (.int .i64 4):=by have:=h6 0 _ rfl;rw[hk]at this;exact this
 have c1:=h6 1 _ rfl;have c2:=h6 2 _ rfl;have c3:=h6 3 _ rfl;have c4:=h6 4 _ rfl;have c5:=h6 5 _ rfl;clear h6 hN hn hk;obtain⟨adk,capk,rfl,hc⟩:=IRow.of hkr;have HC:Hid (∀j k:Nat,n.kids[j]?=some k→∃g,adk=some ⟨g,0,none⟩∧w.cell? ⟨g,j,none⟩=some (.int .i64 (k:Int))):=hc;have HF:Hid (∀k∈n.kids,∀W,Below w.heap.size w W→Calls Tryz.prog 38 #[.slice (some ⟨g,0,none⟩) L.length cap,.int .i64 (k:Int)] W fun e w'=>e=.returned (.string ⟨(f k).toArray⟩)∧Below W.heap.size W w'):=hf;have HFB:Hid (∀j,j≤n.kids.length→(bodyTo f n.kids j).length≤1000000000):=hfb;have HFF:Hid (∀k∈n.kids,(f k).length≤1000000000):=hff;clear hkr hc hf hfb hff;go_enter Tryz.func38,Tryz.ntmps38;go_wp2_with fail
 have B0:Hid (Below w.heap.size w (w.alloc (.cells #[.int .i64 4,.string ⟨n.key.toArray⟩,.string ⟨n.text.toArray⟩,.int .i64 n.num,.slice adk n.kids.length capk,.int .i64 (n.at':Int)] 87))):=bal (brf w) _;have hk0:(w.alloc (.cells #[.int .i64 4,.string ⟨n.key.toArray⟩,.string ⟨n.text.toArray⟩,.int .i64 n.num,.slice adk n.kids.length capk,.int .i64 (n.at':Int)] 87)).cell? ⟨w.heap.size,0,none⟩=some (.int .i64 4):=by simp
 generalize w.alloc (.cells #[.int .i64 4,.string ⟨n.key.toArray⟩,.string ⟨n.text.toArray⟩,.int .i64 n.num,.slice adk n.kids.length capk,.int .i64 (n.at':Int)] 87)=w0 at B0 hk0 ⊢;have HK0:Hid _:=hk0;clear hk0 c0 c1 c2 c3 c4 c5;go_loopw [7,9] (fun tv iv wr=>∃(T:ByteArray) (j:Nat),j≤n.kids.length∧tv=.string T∧iv=.int .i64 (j:Int)∧T.data.toList=91::bodyTo f n.kids j∧Below w0.heap.size w0 wr) (fun _ iv _=>n.kids.length-(intOf iv).toNat)
 case atStart=>exact⟨⟨#[91]⟩,0,by omega,rfl,rfl,rfl,brf _⟩
 case round=>
  obtain⟨T,j,hj,rfl,rfl,hT,hbl⟩:=hrel;have hTs:T.size≤1000000001:=by
   have h1:=HFB.out j hj;have h2:T.size=T.data.toList.length:=by simp
   rw[h2,hT,List.length_cons];omega
  have hkc:=cell_keep hbl HK0.out;have HT:Hid (T.data.toList=91::bodyTo f n.kids j):=hT;have HBL:Hid (Below w0.heap.size w0 wr):=hbl;have B1:Hid (Below w.heap.size w wr):=B0.out.trans ⟨hbl.os,hbl.tape,hbl.output,hbl.size,fun k hk=>hbl.block k (Nat.lt_of_lt_of_le hk B0.out.size)⟩;clear hT hbl;by_cases hlt:j<n.kids.length
  ·have hlt':(j:Int)<(n.kids.length:Int):=by omega
   obtain⟨k,hk⟩:∃k,n.kids[j]?=some k:=⟨_,List.getElem?_eq_getElem hlt⟩;have hkm:k∈n.kids:=List.mem_of_getElem? hk;obtain⟨gk,rfl,hck⟩:=HC.out j k hk;have hckr:=cell_keep B1.out hck;have hgd:n.kids.getD j 0=k:=by rw[List.getD_eq_getElem?_getD,hk];rfl
   have hcall:=HF.out k hkm wr B1.out;obtain⟨F,hF⟩:∃F:ByteArray,(⟨(f k).toArray⟩:ByteArray)=F:=⟨_,rfl⟩;have hFl:F.data.toList=f k:=by rw[←hF]
   have hFs:F.size≤1000000000:=by rw[←hF];show(f k).toArray.size≤_;simpa using HFF.out k hkm
   rw[hF]at hcall;have HFL:Hid _:=hFl;clear hF hFl;have HGD:Hid _:=hgd;clear hk hkm hck hgd;rcases Nat.eq_zero_or_pos j with hj0|hj0
   ·have hj1:decide (0<j)=false:=by simp;omega
    have hj2:decide ((0:Int)<(j:Int))=false:=by simp;omega
    have HJ0:Hid (j=0):=hj0;clear hj0;go_wp2_with fail
    refine hcall.mono ?_;rintro e w2 ⟨rfl,b2⟩;have B2:Hid (Below w0.heap.size w0 w2):=HBL.out.trans ⟨b2.os,b2.tape,b2.output,b2.size,fun k hk=>b2.block k (Nat.lt_of_lt_of_le hk HBL.out.size)⟩;clear b2 hcall;go_wp2_with fail
    go_roundw
    case rel=>
     refine⟨T++F,j+1,by omega,rfl,by go_num,?_,B2.out⟩;rw[ByteArray.data_append,Array.toList_append,HT.out,HFL.out,bodyTo,if_pos HJ0.out,HGD.out];simp
    case measure=>simp[intOf];omega
   ·have hj1:decide (0<j)=true:=by simp;omega
    have hj2:(0:Int)<(j:Int):=by omega
    have HJ0:Hid (0<j):=hj0;go_wp2_with fail
    refine hcall.mono ?_;rintro e w2 ⟨rfl,b2⟩;have B2:Hid (Below w0.heap.size w0 w2):=HBL.out.trans ⟨b2.os,b2.tape,b2.output,b2.size,fun k hk=>b2.block k (Nat.lt_of_lt_of_le hk HBL.out.size)⟩;clear b2 hcall;go_wp2_with fail
    go_roundw
    case rel=>
     refine⟨T++⟨#[44]⟩++F,j+1,by omega,rfl,by go_num,?_,B2.out⟩;rw[ByteArray.data_append,ByteArray.data_append,Array.toList_append,Array.toList_append,HT.out,HFL.out,bodyTo,if_neg (by have:=HJ0.out;omega),HGD.out];simp
    case measure=>simp[intOf];omega
  ·obtain rfl:j=n.kids.length:=by omega
   go_wp2_with fail
   go_ret;refine⟨?_,B1.out⟩;have e:T++⟨#[93]⟩=⟨(91::bodyTo f n.kids n.kids.length++[93]).toArray⟩:=by
    apply ByteArray.ext;rw[ByteArray.data_append];apply Array.toList_inj.1;rw[Array.toList_append,HT.out]
   exact congrArg (fun b=>Ending.returned (Value.string b)) e
theorem rformO(B:Nat)(g cap:Nat)(L:List Nd)(w:World)(hN:Nodes B 87 (.slice (some ⟨g,0,none⟩) L.length cap) L w)(o:Nat)(n:Nd)(hn:L[o]?=some n)(hb:L.length≤1000000)(hk:n.kind=5)(hkb:n.kids.length≤1000000)(f:Nat→List UInt8)(hf:∀k∈n.kids,∀W,Below w.heap.size w W→Calls Tryz.prog 38 #[.slice (some ⟨g,0,none⟩) L.length cap,.int .i64 (k:Int)] W fun e w'=>e=.returned (.string ⟨(f k).toArray⟩)∧Below W.heap.size W w')(hks:∀k∈n.kids,k<L.length)(hkey:∀(k:Nat) (m:Nd),L[k]?=some m→m.key.length≤100000000)(hfb:∀j,j≤n.kids.length→(bodyTo (memF L f) (srt (ltK L) n.kids) j).length≤1000000000)(hff:∀k∈n.kids,(f k).length≤1000000000):Calls Tryz.prog 38 #[.slice (some ⟨g,0,none⟩) L.length cap,.int .i64 (o:Int)] w fun e w'=>e=.returned (.string ⟨(123::bodyTo (memF L f) (srt (ltK L) n.kids) n.kids.length++[125]).toArray⟩)∧Below w.heap.size w w':=by
 have hol:o<L.length:=(List.getElem?_eq_some_iff.1 hn).1;have ho':(o:Int)<(L.length:Int):=by omega
 obtain⟨kv,h6,hkr⟩:=hN.six o n hn;have c0:w.cell? ⟨g,o*6,none⟩=some (.int .i64 5):=by have:=h6 0 _ rfl;rw[hk]at this;exact this
 have c1:=h6 1 _ rfl;have c2:=h6 2 _ rfl;have c3:=h6 3 _ rfl;have c4:=h6 4 _ rfl;have c5:=h6 5 _ rfl;have HN:Hid (Nodes B 87 (.slice (some ⟨g,0,none⟩) L.length cap) L w):=hN;have HNN:Hid (L[o]?=some n):=hn;have HKS:Hid (∀k∈n.kids,k<L.length):=hks;have HKEY:Hid (∀(k:Nat) (m:Nd),L[k]?=some m→m.key.length≤100000000):=hkey;clear h6 hN hn hk hks hkey;obtain⟨adk,capk,rfl,hc⟩:=IRow.of hkr;have HF:Hid (∀k∈n.kids,∀W,Below w.heap.size w W→Calls Tryz.prog 38 #[.slice (some ⟨g,0,none⟩) L.length cap,.int .i64 (k:Int)] W fun e w'=>e=.returned (.string ⟨(f k).toArray⟩)∧Below W.heap.size W w'):=hf;have HFB:Hid (∀j,j≤n.kids.length→(bodyTo (memF L f) (srt (ltK L) n.kids) j).length≤1000000000):=hfb;have HFF:Hid (∀k∈n.kids,(f k).length≤1000000000):=hff;clear hkr hc hf hfb hff;go_enter Tryz.func38,Tryz.ntmps38;go_wp2_with fail
 have B0:Hid (Below w.heap.size w (w.alloc (.cells #[.int .i64 5,.string ⟨n.key.toArray⟩,.string ⟨n.text.toArray⟩,.int .i64 n.num,.slice adk n.kids.length capk,.int .i64 (n.at':Int)] 87))):=bal (brf w) _;have hk0:(w.alloc (.cells #[.int .i64 5,.string ⟨n.key.toArray⟩,.string ⟨n.text.toArray⟩,.int .i64 n.num,.slice adk n.kids.length capk,.int .i64 (n.at':Int)] 87)).cell? ⟨w.heap.size,0,none⟩=some (.int .i64 5):=by simp
 generalize w.alloc (.cells #[.int .i64 5,.string ⟨n.key.toArray⟩,.string ⟨n.text.toArray⟩,.int .i64 n.num,.slice adk n.kids.length capk,.int .i64 (n.at':Int)] 87)=w0 at B0 hk0 ⊢;have HK0:Hid _:=hk0;clear hk0 c0 c1 c2 c3 c4 c5;have hmem:=rmembers B (.slice (some ⟨g,0,none⟩) L.length cap) L w0 (HN.out.kept fun g' _ h'=>B0.out.block g' h') o n HNN.out HKS.out hb hkb (fun k m h=>Nat.le_trans (HKEY.out k m h) (by decide));refine hmem.mono ?_;rintro e w1 ⟨v1,rfl,r1,b1⟩;obtain⟨ks,hks⟩:∃ks,srt (ltK L) n.kids=ks:=⟨_,rfl⟩;have hsl:ks.length=n.kids.length:=by rw[←hks];exact srt_len _ _
 rw[hks,←hsl]at r1;obtain⟨ad1,cap1,rfl,c1⟩:=IRow.of r1;have HC:Hid (∀j k:Nat,ks[j]?=some k→∃g,ad1=some ⟨g,0,none⟩∧w1.cell? ⟨g,j,none⟩=some (.int .i64 (k:Int))):=c1;have HK1:Hid (w1.cell? ⟨w.heap.size,0,none⟩=some (.int .i64 5)):=cell_keep b1 HK0.out;have B1:Hid (Below w.heap.size w w1):=B0.out.trans ⟨b1.os,b1.tape,b1.output,b1.size,fun k hk=>b1.block k (Nat.lt_of_lt_of_le hk B0.out.size)⟩;have HQ:Hid (∀(k:Nat) (m:Nd),L[k]?=some m→w1.cell? ⟨g,k*6+1,none⟩=some (.string ⟨m.key.toArray⟩)):=fun k m h=>cell_keep B1.out (HN.out.cells.1 k m h)
 have HSM:Hid (∀k∈ks,k∈n.kids):=fun k hk=>srt_mem (ltK L) n.kids k (by rw[hks];exact hk)
 have HFB':Hid (∀j,j≤ks.length→(bodyTo (memF L f) ks j).length≤1000000000):=fun j hj=>by have:=HFB.out j (by omega);rwa [hks]at this
 have HKE:Hid (srt (ltK L) n.kids=ks∧ks.length=n.kids.length):=⟨hks,hsl⟩;have hkb':ks.length≤1000000:=by omega
 clear r1 c1 b1 hmem HN HNN HK0 B0 HFB hks hsl;go_wp2_with fail
 go_loopw [7,9] (fun tv iv wr=>∃(T:ByteArray) (j:Nat),j≤ks.length∧tv=.string T∧iv=.int .i64 (j:Int)∧T.data.toList=123::bodyTo (memF L f) ks j∧Below w1.heap.size w1 wr) (fun _ iv _=>ks.length-(intOf iv).toNat)
 case atStart=>exact⟨⟨#[123]⟩,0,by omega,rfl,rfl,rfl,brf _⟩
 case round=>
  obtain⟨T,j,hj,rfl,rfl,hT,hbl⟩:=hrel;have hTs:T.size≤1000000001:=by
   have h1:=HFB'.out j hj;have h2:T.size=T.data.toList.length:=by simp
   rw[h2,hT,List.length_cons];omega
  have hkc:=cell_keep hbl HK1.out;have HT:Hid (T.data.toList=123::bodyTo (memF L f) ks j):=hT;have HBL:Hid (Below w1.heap.size w1 wr):=hbl;have B2:Hid (Below w.heap.size w wr):=B1.out.trans ⟨hbl.os,hbl.tape,hbl.output,hbl.size,fun k hk=>hbl.block k (Nat.lt_of_lt_of_le hk B1.out.size)⟩;clear hT hbl;by_cases hlt:j<ks.length
  ·have hlt':(j:Int)<(ks.length:Int):=by omega
   obtain⟨k,hk⟩:∃k,ks[j]?=some k:=⟨_,List.getElem?_eq_getElem hlt⟩;have hkm:k∈n.kids:=HSM.out k (List.mem_of_getElem? hk);have hkl:=HKS.out k hkm;have hkl':(k:Int)<(L.length:Int):=by omega
   obtain⟨m,hm⟩:∃m,L[k]?=some m:=⟨_,List.getElem?_eq_getElem hkl⟩;obtain⟨gk,rfl,hck⟩:=HC.out j k hk;have hckr:=cell_keep HBL.out hck;have hkey:=cell_keep HBL.out (HQ.out k m hm);have hgd:ks.getD j 0=k:=by rw[List.getD_eq_getElem?_getD,hk];rfl
   obtain⟨F,hF⟩:∃F:ByteArray,(⟨(f k).toArray⟩:ByteArray)=F:=⟨_,rfl⟩;have hFl:F.data.toList=f k:=by rw[←hF]
   have hFs:F.size≤1000000000:=by rw[←hF];show(f k).toArray.size≤_;simpa using HFF.out k hkm
   have hcall:=HF.out k hkm;rw[hF]at hcall;have HCALL:Hid _:=hcall;obtain⟨N,hNn⟩:∃N:ByteArray,(⟨(strT m.key).toArray⟩:ByteArray)=N:=⟨_,rfl⟩;have hNl:N.data.toList=strT (keyL L k):=by rw[←hNn,keyL_of hm]
   have hNs:N.size≤1000000000:=by
    rw[←hNn];show(strT m.key).toArray.size≤_;have h1:=sgnsL_len m.key;have h2:=HKEY.out k m hm;simp[strT];omega
   have hstr:∀W,Calls Tryz.prog 24 #[.string ⟨m.key.toArray⟩] W fun e w'=>e=.returned (.string N)∧Below W.heap.size W w':=fun W=>by
    have h2:=HKEY.out k m hm;rw[←hNn];simpa using rstrT ⟨m.key.toArray⟩ W (by show m.key.toArray.size≤_;simp;omega)
   have HFL:Hid (F.data.toList=f k∧N.data.toList=strT (keyL L k)):=⟨hFl,hNl⟩;have HGD:Hid _:=hgd;clear hF hFl hk hkm hck hgd hcall hNn hNl hm hkl;rcases Nat.eq_zero_or_pos j with hj0|hj0
   ·have hj1:decide (0<j)=false:=by simp;omega
    have hj2:decide ((0:Int)<(j:Int))=false:=by simp;omega
    have HJ0:Hid (j=0):=hj0;clear hj0;go_wp2_with fail
    refine(hstr _).mono ?_;rintro e w2 ⟨rfl,b2⟩;have B3:Hid (Below w1.heap.size w1 w2):=HBL.out.trans ⟨b2.os,b2.tape,b2.output,b2.size,fun k hk=>b2.block k (Nat.lt_of_lt_of_le hk HBL.out.size)⟩;have hckr2:=cell_keep b2 hckr;have HB:Below w.heap.size w w2:=B2.out.trans ⟨b2.os,b2.tape,b2.output,b2.size,fun k hk=>b2.block k (Nat.lt_of_lt_of_le hk B2.out.size)⟩;have hcall:=HCALL.out w2 HB;clear b2 hstr hckr hkey hkc HB HCALL HBL;go_wp2_with fail
    refine hcall.mono ?_;rintro e w3 ⟨rfl,b3⟩;have B4:Hid (Below w1.heap.size w1 w3):=B3.out.trans ⟨b3.os,b3.tape,b3.output,b3.size,fun k hk=>b3.block k (Nat.lt_of_lt_of_le hk B3.out.size)⟩;clear b3 hcall;go_wp2_with fail
    go_roundw
    case rel=>
     refine⟨T++N++⟨#[58]⟩++F,j+1,by omega,rfl,by go_num,?_,B4.out⟩;simp only[ByteArray.data_append,Array.toList_append];rw[HT.out,HFL.out.1,HFL.out.2,bodyTo,if_pos HJ0.out,HGD.out,memF];simp
    case measure=>simp[intOf];omega
   ·have hj1:decide (0<j)=true:=by simp;omega
    have hj2:(0:Int)<(j:Int):=by omega
    have HJ0:Hid (0<j):=hj0;go_wp2_with fail
    refine(hstr _).mono ?_;rintro e w2 ⟨rfl,b2⟩;have B3:Hid (Below w1.heap.size w1 w2):=HBL.out.trans ⟨b2.os,b2.tape,b2.output,b2.size,fun k hk=>b2.block k (Nat.lt_of_lt_of_le hk HBL.out.size)⟩;have hckr2:=cell_keep b2 hckr;have HB:Below w.heap.size w w2:=B2.out.trans ⟨b2.os,b2.tape,b2.output,b2.size,fun k hk=>b2.block k (Nat.lt_of_lt_of_le hk B2.out.size)⟩;have hcall:=HCALL.out w2 HB;clear b2 hstr hckr hkey hkc HB HCALL HBL;go_wp2_with fail
    refine hcall.mono ?_;rintro e w3 ⟨rfl,b3⟩;have B4:Hid (Below w1.heap.size w1 w3):=B3.out.trans ⟨b3.os,b3.tape,b3.output,b3.size,fun k hk=>b3.block k (Nat.lt_of_lt_of_le hk B3.out.size)⟩;clear b3 hcall;go_wp2_with fail
    go_roundw
    case rel=>
     refine⟨T++⟨#[44]⟩++N++⟨#[58]⟩++F,j+1,by omega,rfl,by go_num,?_,B4.out⟩;simp only[ByteArray.data_append,Array.toList_append];rw[HT.out,HFL.out.1,HFL.out.2,bodyTo,if_neg (by have:=HJ0.out;omega),HGD.out,memF];simp
    case measure=>simp[intOf];omega
  ·obtain rfl:j=ks.length:=by omega
   go_wp2_with fail
   go_ret;refine⟨?_,B2.out⟩;have e:T++⟨#[125]⟩=⟨(123::bodyTo (memF L f) (srt (ltK L) n.kids) n.kids.length++[125]).toArray⟩:=by
    apply ByteArray.ext;rw[ByteArray.data_append];apply Array.toList_inj.1;rw[Array.toList_append,HT.out,HKE.out.1,HKE.out.2]
   exact congrArg (fun b=>Ending.returned (Value.string b)) e
theorem rform(B g cap:Nat)(L:List Nd)(hW:WFN L)(hS:Short L):∀(f k:Nat),k<L.length→L.length-k≤f→∀w,Nodes B 87 (.slice (some ⟨g,0,none⟩) L.length cap) L w→Calls Tryz.prog 38 #[.slice (some ⟨g,0,none⟩) L.length cap,.int .i64 (k:Int)] w fun e w'=>e=.returned (.string ⟨(formN L f k).toArray⟩)∧Below w.heap.size w w':=by
 intro f;induction f with
 | zero=>intro k hk hf;omega
 | succ f ih=>
   intro k hk hf w hN;obtain⟨n,hn⟩:∃n,L[k]?=some n:=⟨_,List.getElem?_eq_getElem hk⟩;have hkind:=hW.kind k n hn;have hkids:=hW.kids k n hn;have hrec:∀c∈n.kids,∀W,Below w.heap.size w W→Calls Tryz.prog 38 #[.slice (some ⟨g,0,none⟩) L.length cap,.int .i64 (c:Int)] W fun e w'=>e=.returned (.string ⟨(formN L f c).toArray⟩)∧Below W.heap.size W w':=by
    intro c hc W hB;obtain⟨h1,h2⟩:=hkids c hc;exact ih c h2 (by omega) W (hN.kept fun g' _ h'=>hB.block g' h')
   unfold formN;rw[hn];simp only;by_cases h0:n.kind=0
   ·rw[if_pos h0];exact rform0 B g cap L w hN k n hn hW.len h0
   rw[if_neg h0];by_cases h1:n.kind=1
   ·rw[if_pos h1]
    rcases hW.truth k n hn h1 with h|h
    ·rw[if_neg (by omega)];exact rform2 B g cap L w hN k n hn hW.len h1 h
    ·rw[if_pos h];exact rform1 B g cap L w hN k n hn hW.len h1 h
   rw[if_neg h1];by_cases h2:n.kind=2
   ·rw[if_pos h2];exact rform3 B g cap L w hN k n hn hW.len h2 (hW.lo k n hn) (hW.hi k n hn)
   rw[if_neg h2];by_cases h3:n.kind=3
   ·rw[if_pos h3];exact rform4 B g cap L w hN k n hn hW.len h3 (Nat.le_trans (hW.text k n hn) (by decide))
   rw[if_neg h3];by_cases h4:n.kind=4
   ·rw[if_pos h4];exact rformA B g cap L w hN k n hn hW.len h4 (hW.few k n hn) (formN L f) hrec (hS.arr f k n hn h4) (fun c _=>hS.one f c)
   rw[if_neg h4];have h5:n.kind=5:=by omega
   exact rformO B g cap L w hN k n hn hW.len h5 (hW.few k n hn) (formN L f) hrec (fun c hc=>(hkids c hc).2) hW.key (hS.obj f k n hn h5) (fun c _=>hS.one f c)
end Go.Proofs.YtbbopknnoamkbaaGreatDoor
