import Derived.Test.YtihboehpeehlmaaGreatDoorX1
set_option maxHeartbeats 12800000
set_option maxRecDepth 100000
set_option linter.unusedVariables false
namespace Go.Proofs.YtihboehpeehlmaaGreatDoor
open Tryz Go.RowKit
structure KR (bp:Nat) (O:Nat->Prop) (kv:Value) (ks:hH) (w:Wd):Prop where
 shape:∃ad cap,kv=.slice ad ks.length cap
 at':∀(j k:Nat),ks[j]?=some k->∃g cap,kv=.slice (some ⟨g,0,none⟩) ks.length cap/\g<w.heap.size/\g≠bp/\¬O g/\w.cell? ⟨g,j,none⟩=some (.int .i64 (k:Int))
theorem KR.chg{b:Nat}{O m:Nat->Prop}{kv:Value}{f:hH}{w w':Wd}(h:KR b O kv f w)(c:cZ b O w m w'):KR b m kv f w':=by
 refine⟨h.shape,fun j k n=>?_⟩;obtain⟨g,q,e,l,i,d,o⟩:=h.at' j k n;refine⟨g,q,e,J0 l c.size,i,fun p=>?_,?_⟩
 ·rcases c.own g p with a|a
  ·exact d a
  ·omega
 ·rw[Lm (a:=⟨g,j,none⟩) (c.block g l i d)];exact o
theorem n8(F:Nat->dj)(a:hH):∀j,j<=a.length->(ct F a j).length<=(ct F a a.length).length:=by
 have h:∀d j,(ct F a j).length<=(ct F a (j+d)).length:=by
  intro d;induction d with
  | zero=>intro j;exact JQ _
  | succ d ih=>
    intro j;have:=ih j;rw[<-LF,ct];simp only[JH];omega
 intro j b;have:=h (a.length-j) j;rwa [show j+(a.length-j)=a.length by omega]at this
section
variable (Z:Nat) (Y X:Value) (l:dj) (w:Wd)
theorem FF(a0 L:UInt8)(F:Nat->dj)(c:hH)(kv:Value)(aA:c.length<=1000000)(hK:KR Z (own X []) kv c w)(h:WZ Z Y X l w)(hl:l.length+(ct F c c.length).length+2<=4000000000)(hf:∀k∈c,∀(v':Value) (l':dj) (y:Wd),WZ Z Y v' l' y->cZ Z (own X []) w (own v' []) y->l'.length+(F k).length<=4000000000->Calls prog 135 #[.pointer (some ⟨Z,0,none⟩),.int .i64 (k:Int)] y fun r am=>WQ Z Y (own v' []) y (l'++F k) r am):Calls prog 168 #[.pointer (some ⟨Z,0,none⟩),.int .u8 (a0.toNat:Int),kv,.func (.func 135) #[.pointer (some ⟨Z,0,none⟩)] #[],.int .u8 (L.toNat:Int)] w fun r y=>WQ Z Y (own X []) w (l++(a0::ct F c c.length++[L])) r y:=by
 obtain⟨i0,ah,ab,af,ac⟩:=Kf eb;have HI:Hid _:=ah;have H:Hid _:=h;have HK:Hid _:=hK;have HF:Hid _:=n8 F c;have aq:Hid _:=hf;have E:=h.wd.lt;have M:Hid (some Z≠X.ownBlock):=fun e=>by have:=(cc h.row e.symm).1;omega
 obtain⟨ad,ae,rfl⟩:=h.shape;obtain⟨ax,ay,rfl⟩:=hK.shape;obtain⟨P,t,p⟩:=h.wd.cell;have u:=p 1;clear ah h p hK hf;go_enter func168,ntmps168;go_wp2_with (refine gG rfl (.tmp 16) (.tmp 18) 115 rfl 5 i0 JU HI.out ab af ac (Z+1) _ l.length (l.map cj) [a0] w rfl H.out.row (by omega) (by omega) (LE _) (by simp) rfl ?_;intro g8 aa w8 s f q;have i:=fX f E M.out;have U:=(i.2.1 1).trans t;have N:=(i.2.2 1).trans u;have o:Hid _:=H.out.put (by simp) (fun k n=>JO _ _ n) rfl rfl rfl s f q;clear i s f q)
 have V:Hid (∃v,WZ Z Y v (l++a0::ct F c 0) (w8.setCell ⟨Z,1,none⟩ (.slice (some ⟨g8,0,none⟩) (l.length+1) aa))/\cZ Z (own (.slice ad l.length ae) []) w (own v []) (w8.setCell ⟨Z,1,none⟩ (.slice (some ⟨g8,0,none⟩) (l.length+1) aa))):=⟨_,o.out.1,o.out.2⟩;clear o U N;generalize w8.setCell ⟨Z,1,none⟩ (.slice (some ⟨g8,0,none⟩) (l.length+1) aa)=W at V ⊢;clear P t u E M;go_loopw [24] (fun iv wr=>∃(j:Nat) (v:Value),j<=c.length/\iv=.int .i64 (j:Int)/\WZ Z Y v (l++a0::ct F c j) wr/\cZ Z (own (.slice ad l.length ae) []) w (own v []) wr) (fun iv _=>c.length-(intOf iv).toNat)
 case atStart=>obtain⟨v,a,b⟩:=V.out;exact⟨0,v,by omega,rfl,a,b⟩
 case round=>
  clear V;obtain⟨j,v,hj,rfl,m,B⟩:=hrel;have al:(l++a0::ct F c j).length<=4000000000:=by
   have x:=HF.out j hj;rw[JH,JM];omega
  have O:Hid _:=m;have HC:Hid _:=B;have aj:=m.wd.lt;have M:Hid (some Z≠v.ownBlock):=fun e=>by have:=(cc m.row e.symm).1;omega
  by_cases E:j<c.length
  ·have k1:(j:Int)<(c.length:Int):=by omega
   obtain⟨k,n⟩:∃k,c[j]?=some k:=⟨_,JF E⟩;obtain⟨g,az,e,g1,g2,g3,g4⟩:=(HK.out.chg B).at' j k n;obtain rfl:ax=some ⟨g,0,none⟩:=by injection e
   have ai:=JZ n;have HB:Hid (ct F c (j+1)=ct F c j++(if j=0 then []else [44])++F k):=by
    show _=_
    rw[ct,KJ,n];rfl
   have ak:Hid ((l++a0::ct F c j).length+(if j=0 then 0 else 1)+(F k).length<=4000000000):=by
    show _<=_
    have x:=HF.out (j+1) E;rw[HB.out]at x;simp only[JH,JM]at x ⊢;by_cases h0:j=0
    ·rw[if_pos h0]at x ⊢;simp only[JY]at x;omega
    ·rw[if_neg h0]at x ⊢;simp only[JM,JY]at x;omega
   have S:=aq.out k ai;clear n ai e g1 g2 g3;rcases MF j with D|D
   ·have an:decide (0<j)=false:=by simp;omega
    have ar:decide ((0:Int)<(j:Int))=false:=by simp;omega
    have I:=S v _ wr m B (by have:=ak.out;rw[if_pos D]at this;exact this);have T:Hid (j=0):=D;clear D m B al S;go_wp2_with fail
    refine I.mono ?_;rintro r w2 ⟨rfl,v2,C,K⟩;have J:Hid _:=And.intro C (HC.out.trans K);clear I C K;go_wp2_with fail
    go_roundw
    case rel=>
     refine⟨j+1,v2,by omega,by go_num,?_,J.out.2⟩;rw[HB.out,if_pos T.out];have:=J.out.1;rw[J1,JS]at this;simpa using this
    case measure=>simp[intOf];omega
   ·have an:decide (0<j)=true:=by simp;omega
    have T:Hid (¬j=0):=by show ¬j=0;omega
    obtain⟨aw,ap,ao⟩:=m.shape;obtain⟨P,t,p⟩:=m.wd.cell;have u:=p 1;generalize ag:l++a0::ct F c j=d at *;have au:Hid (l++a0::ct F c j=d):=ag;subst ao;clear D m B p ag;go_wp2_with (refine gG rfl (.tmp 35) (.tmp 36) 115 rfl 5 i0 JU HI.out ab af ac (Z+1) _ d.length (d.map cj) [44] wr rfl O.out.row (by omega) (by omega) (by decide) (by decide) rfl ?_;intro A z Q s f q;have i:=fX f aj M.out;have U:=(i.2.1 1).trans t;have N:=(i.2.2 1).trans u;have o:Hid _:=O.out.put (by simp) (fun k n=>JO _ _ n) rfl rfl rfl s f q;clear i s f q)
    have R:Hid (WZ Z Y (.slice (some ⟨A,0,none⟩) (d.length+1) z) (d++[44]) (Q.setCell ⟨Z,1,none⟩ (.slice (some ⟨A,0,none⟩) (d.length+1) z))/\cZ Z (own (.slice ad l.length ae) []) w (own (.slice (some ⟨A,0,none⟩) (d.length+1) z) []) (Q.setCell ⟨Z,1,none⟩ (.slice (some ⟨A,0,none⟩) (d.length+1) z))):=⟨o.out.1,HC.out.trans o.out.2⟩;clear o U N P t u g4;generalize Q.setCell ⟨Z,1,none⟩ (.slice (some ⟨A,0,none⟩) (d.length+1) z)=av at R ⊢;have I:=S _ _ av R.out.1 R.out.2 (by have:=ak.out;rw[if_neg T.out]at this;rw[JH];exact this);clear S;go_wp2_with fail
    refine I.mono ?_;rintro r w2 ⟨rfl,v2,C,K⟩;have J:Hid _:=And.intro C (R.out.2.trans K);clear I C K;go_wp2_with fail
    go_roundw
    case rel=>
     refine⟨j+1,v2,by omega,by go_num,?_,J.out.2⟩;rw[HB.out,if_neg T.out];have:=J.out.1;rw[<-au.out]at this;simpa using this
    case measure=>simp[intOf];omega
  ·obtain rfl:j=c.length:=by omega
   have HE:Hid (l++a0::(ct F c c.length++[L])=(l++a0::ct F c c.length)++[L]):=by
    show _=_
    simp
   obtain⟨aw,ap,rfl⟩:=m.shape;obtain⟨P,t,p⟩:=m.wd.cell;have u:=p 1;generalize l++a0::ct F c c.length=d at *;clear m B p;go_wp2_with (refine gG rfl (.tmp 48) (.tmp 50) 115 rfl 5 i0 JU HI.out ab af ac (Z+1) _ d.length (d.map cj) [L] wr rfl O.out.row (by omega) (by omega) (LE _) (by simp) rfl ?_;intro A z Q s f q;have i:=fX f aj M.out;have U:=(i.2.1 1).trans t;have N:=(i.2.2 1).trans u;have o:Hid _:=O.out.put (by simp) (fun k n=>JO _ _ n) rfl rfl rfl s f q;clear i s f q)
   go_wp2;go_end0
   rw[HE.out];exact⟨rfl,_,o.out.1,HC.out.trans o.out.2⟩
end
section
variable (Z:Nat) (Y X:Value) (l:dj) (w:Wd)
theorem Fp(a0 L:UInt8)(F:Nat->dj)(c:hH)(kv:Value)(aA:c.length<=1000000)(hK:KR Z (own X []) kv c w)(h:WZ Z Y X l w)(hl:l.length+(ct F c c.length).length+2<=4000000000)(hf:∀k∈c,∀(v':Value) (l':dj) (y:Wd),WZ Z Y v' l' y->cZ Z (own X []) w (own v' []) y->l'.length+(F k).length<=4000000000->Calls prog 170 #[.pointer (some ⟨Z,0,none⟩),.int .i64 (k:Int)] y fun r am=>WQ Z Y (own v' []) y (l'++F k) r am):Calls prog 168 #[.pointer (some ⟨Z,0,none⟩),.int .u8 (a0.toNat:Int),kv,.func (.func 170) #[.pointer (some ⟨Z,0,none⟩)] #[],.int .u8 (L.toNat:Int)] w fun r y=>WQ Z Y (own X []) w (l++(a0::ct F c c.length++[L])) r y:=by
 obtain⟨i0,ah,ab,af,ac⟩:=Kf eb;have HI:Hid _:=ah;have H:Hid _:=h;have HK:Hid _:=hK;have HF:Hid _:=n8 F c;have aq:Hid _:=hf;have E:=h.wd.lt;have M:Hid (some Z≠X.ownBlock):=fun e=>by have:=(cc h.row e.symm).1;omega
 obtain⟨ad,ae,rfl⟩:=h.shape;obtain⟨ax,ay,rfl⟩:=hK.shape;obtain⟨P,t,p⟩:=h.wd.cell;have u:=p 1;clear ah h p hK hf;go_enter func168,ntmps168;go_wp2_with (refine gG rfl (.tmp 16) (.tmp 18) 115 rfl 5 i0 JU HI.out ab af ac (Z+1) _ l.length (l.map cj) [a0] w rfl H.out.row (by omega) (by omega) (LE _) (by simp) rfl ?_;intro g8 aa w8 s f q;have i:=fX f E M.out;have U:=(i.2.1 1).trans t;have N:=(i.2.2 1).trans u;have o:Hid _:=H.out.put (by simp) (fun k n=>JO _ _ n) rfl rfl rfl s f q;clear i s f q)
 have V:Hid (∃v,WZ Z Y v (l++a0::ct F c 0) (w8.setCell ⟨Z,1,none⟩ (.slice (some ⟨g8,0,none⟩) (l.length+1) aa))/\cZ Z (own (.slice ad l.length ae) []) w (own v []) (w8.setCell ⟨Z,1,none⟩ (.slice (some ⟨g8,0,none⟩) (l.length+1) aa))):=⟨_,o.out.1,o.out.2⟩;clear o U N;generalize w8.setCell ⟨Z,1,none⟩ (.slice (some ⟨g8,0,none⟩) (l.length+1) aa)=W at V ⊢;clear P t u E M;go_loopw [24] (fun iv wr=>∃(j:Nat) (v:Value),j<=c.length/\iv=.int .i64 (j:Int)/\WZ Z Y v (l++a0::ct F c j) wr/\cZ Z (own (.slice ad l.length ae) []) w (own v []) wr) (fun iv _=>c.length-(intOf iv).toNat)
 case atStart=>obtain⟨v,a,b⟩:=V.out;exact⟨0,v,by omega,rfl,a,b⟩
 case round=>
  clear V;obtain⟨j,v,hj,rfl,m,B⟩:=hrel;have al:(l++a0::ct F c j).length<=4000000000:=by
   have x:=HF.out j hj;rw[JH,JM];omega
  have O:Hid _:=m;have HC:Hid _:=B;have aj:=m.wd.lt;have M:Hid (some Z≠v.ownBlock):=fun e=>by have:=(cc m.row e.symm).1;omega
  by_cases E:j<c.length
  ·have k1:(j:Int)<(c.length:Int):=by omega
   obtain⟨k,n⟩:∃k,c[j]?=some k:=⟨_,JF E⟩;obtain⟨g,az,e,g1,g2,g3,g4⟩:=(HK.out.chg B).at' j k n;obtain rfl:ax=some ⟨g,0,none⟩:=by injection e
   have ai:=JZ n;have HB:Hid (ct F c (j+1)=ct F c j++(if j=0 then []else [44])++F k):=by
    show _=_
    rw[ct,KJ,n];rfl
   have ak:Hid ((l++a0::ct F c j).length+(if j=0 then 0 else 1)+(F k).length<=4000000000):=by
    show _<=_
    have x:=HF.out (j+1) E;rw[HB.out]at x;simp only[JH,JM]at x ⊢;by_cases h0:j=0
    ·rw[if_pos h0]at x ⊢;simp only[JY]at x;omega
    ·rw[if_neg h0]at x ⊢;simp only[JM,JY]at x;omega
   have S:=aq.out k ai;clear n ai e g1 g2 g3;rcases MF j with D|D
   ·have an:decide (0<j)=false:=by simp;omega
    have ar:decide ((0:Int)<(j:Int))=false:=by simp;omega
    have I:=S v _ wr m B (by have:=ak.out;rw[if_pos D]at this;exact this);have T:Hid (j=0):=D;clear D m B al S;go_wp2_with fail
    refine I.mono ?_;rintro r w2 ⟨rfl,v2,C,K⟩;have J:Hid _:=And.intro C (HC.out.trans K);clear I C K;go_wp2_with fail
    go_roundw
    case rel=>
     refine⟨j+1,v2,by omega,by go_num,?_,J.out.2⟩;rw[HB.out,if_pos T.out];have:=J.out.1;rw[J1,JS]at this;simpa using this
    case measure=>simp[intOf];omega
   ·have an:decide (0<j)=true:=by simp;omega
    have T:Hid (¬j=0):=by show ¬j=0;omega
    obtain⟨aw,ap,ao⟩:=m.shape;obtain⟨P,t,p⟩:=m.wd.cell;have u:=p 1;generalize ag:l++a0::ct F c j=d at *;have au:Hid (l++a0::ct F c j=d):=ag;subst ao;clear D m B p ag;go_wp2_with (refine gG rfl (.tmp 35) (.tmp 36) 115 rfl 5 i0 JU HI.out ab af ac (Z+1) _ d.length (d.map cj) [44] wr rfl O.out.row (by omega) (by omega) (by decide) (by decide) rfl ?_;intro A z Q s f q;have i:=fX f aj M.out;have U:=(i.2.1 1).trans t;have N:=(i.2.2 1).trans u;have o:Hid _:=O.out.put (by simp) (fun k n=>JO _ _ n) rfl rfl rfl s f q;clear i s f q)
    have R:Hid (WZ Z Y (.slice (some ⟨A,0,none⟩) (d.length+1) z) (d++[44]) (Q.setCell ⟨Z,1,none⟩ (.slice (some ⟨A,0,none⟩) (d.length+1) z))/\cZ Z (own (.slice ad l.length ae) []) w (own (.slice (some ⟨A,0,none⟩) (d.length+1) z) []) (Q.setCell ⟨Z,1,none⟩ (.slice (some ⟨A,0,none⟩) (d.length+1) z))):=⟨o.out.1,HC.out.trans o.out.2⟩;clear o U N P t u g4;generalize Q.setCell ⟨Z,1,none⟩ (.slice (some ⟨A,0,none⟩) (d.length+1) z)=av at R ⊢;have I:=S _ _ av R.out.1 R.out.2 (by have:=ak.out;rw[if_neg T.out]at this;rw[JH];exact this);clear S;go_wp2_with fail
    refine I.mono ?_;rintro r w2 ⟨rfl,v2,C,K⟩;have J:Hid _:=And.intro C (R.out.2.trans K);clear I C K;go_wp2_with fail
    go_roundw
    case rel=>
     refine⟨j+1,v2,by omega,by go_num,?_,J.out.2⟩;rw[HB.out,if_neg T.out];have:=J.out.1;rw[<-au.out]at this;simpa using this
    case measure=>simp[intOf];omega
  ·obtain rfl:j=c.length:=by omega
   have HE:Hid (l++a0::(ct F c c.length++[L])=(l++a0::ct F c c.length)++[L]):=by
    show _=_
    simp
   obtain⟨aw,ap,rfl⟩:=m.shape;obtain⟨P,t,p⟩:=m.wd.cell;have u:=p 1;generalize l++a0::ct F c c.length=d at *;clear m B p;go_wp2_with (refine gG rfl (.tmp 48) (.tmp 50) 115 rfl 5 i0 JU HI.out ab af ac (Z+1) _ d.length (d.map cj) [L] wr rfl O.out.row (by omega) (by omega) (LE _) (by simp) rfl ?_;intro A z Q s f q;have i:=fX f aj M.out;have U:=(i.2.1 1).trans t;have N:=(i.2.2 1).trans u;have o:Hid _:=O.out.put (by simp) (fun k n=>JO _ _ n) rfl rfl rfl s f q;clear i s f q)
   go_wp2;go_end0
   rw[HE.out];exact⟨rfl,_,o.out.1,HC.out.trans o.out.2⟩
end
structure NR (bp:Nat) (O:Nat->Prop) (v:Value) (L:oa) (w:Wd):Prop where
 at':∀(k:Nat) (n:Nd),L[k]?=some n->∃g cap kv,v=.slice (some ⟨g,0,none⟩) L.length cap/\g<w.heap.size/\g≠bp/\¬O g/\KR bp O kv n.kids w/\w.cell? ⟨g,k*6,none⟩=some (.int .i64 (n.kind:Int))/\w.cell? ⟨g,k*6+1,none⟩=some (.string ⟨n.key.toArray⟩)/\w.cell? ⟨g,k*6+2,none⟩=some (.string ⟨n.text.toArray⟩)/\w.cell? ⟨g,k*6+3,none⟩=some (.int .i64 n.num)/\w.cell? ⟨g,k*6+4,none⟩=some kv/\w.cell? ⟨g,k*6+5,none⟩=some (.int .i64 (n.at':Int))
theorem NR.chg{d:Nat}{O m:Nat->Prop}{v:Value}{L:oa}{w w':Wd}(h:NR d O v L w)(c:cZ d O w m w'):NR d m v L w':=by
 refine⟨fun k n s=>?_⟩;obtain⟨g,q,t,e,f,l,i,y,u,z,A,r,p,B⟩:=h.at' k n s;have o:=c.block g f l i;have b:=fun j=>Lm (a:=⟨g,j,none⟩) o
 refine⟨g,q,t,e,J0 f c.size,l,fun x=>?_,y.chg c,?_,?_,?_,?_,?_,?_⟩
 ·rcases c.own g x with a|a
  ·exact i a
  ·omega
 ·rw[b];exact u
 ·rw[b];exact z
 ·rw[b];exact A
 ·rw[b];exact r
 ·rw[b];exact p
 ·rw[b];exact B
section
variable (Z:Nat) (X Y:Value) (l:dj) (w:Wd)
theorem D1(L:oa)(k:Nat)(n:Nd)(u:L[k]?=some n)(ah:k<=1000000000)(G:dj)(V:NR Z (own Y []) X L w)(h:WZ Z X Y l w)(hl:l.length+(dk n.key).length+1+G.length<=4000000000)(aj:n.key.length<=65536)(hf:∀(o:Value) (p:dj) (b:Wd),WZ Z X o p b->cZ Z (own Y []) w (own o []) b->p.length+G.length<=4000000000->Calls prog 135 #[.pointer (some ⟨Z,0,none⟩),.int .i64 (k:Int)] b fun r B=>WQ Z X (own o []) b (p++G) r B):Calls prog 170 #[.pointer (some ⟨Z,0,none⟩),.int .i64 (k:Int)] w fun r b=>WQ Z X (own Y []) w (l++(dk n.key++58::G)) r b:=by
 obtain⟨T,C,E,ad,N⟩:=Kf eb;have H:Hid _:=C;have ag:=(JG.1 u).1;obtain⟨g,aa,kv,rfl,g1,g2,g3,_,_,b1,_,_,_,_⟩:=V.at' k n u;obtain⟨P,t,x⟩:=h.wd.cell;have J:=rA Z _ Y l w ⟨n.key.toArray⟩ (by show n.key.toArray.size<=_;simp;omega) (by omega) h
 have K:Hid _:=hf;go_enter func170,ntmps170;go_wp2_with fail
 refine J.mono ?_;rintro r Q ⟨rfl,R,c,M⟩;have hE:dk ((⟨n.key.toArray⟩:dv).data.toList)=dk n.key:=by simp
 rw[hE]at c;have s:Hid _:=c;have D:Hid _:=M;have I:=c.wd.lt;have ae:Hid (some Z≠R.ownBlock):=fun e=>by have:=(cc c.row e.symm).1;omega
 have ab:(l++dk n.key).length+1+G.length<=4000000000:=by rw[JH];omega
 obtain⟨ak,af,rfl⟩:=c.shape;obtain⟨P,t,x⟩:=c.wd.cell;have f1:=x 1;have S:Hid (l++(dk n.key++58::G)=(l++dk n.key++[58])++G):=by show _=_;simp
 generalize l++dk n.key=a at *;go_wp2_with (refine gG rfl (.tmp 18) (.tmp 19) 115 rfl 5 T JU H.out E ad N (Z+1) _ a.length (a.map cj) [58] Q rfl s.out.row (by omega) (by omega) (by decide) (by decide) rfl ?_;intro f d q A j y;have m:=fX j I ae.out;have s1:=(m.2.1 1).trans t;have t1:=(m.2.2 1).trans f1;have v:Hid _:=s.out.put (by simp) (fun k O=>JO _ _ O) rfl rfl rfl A j y;clear m A j y)
 have i:Hid (WZ Z (.slice (some ⟨g,0,none⟩) L.length aa) (.slice (some ⟨f,0,none⟩) (a.length+1) d) (a++[58]) (q.setCell ⟨Z,1,none⟩ (.slice (some ⟨f,0,none⟩) (a.length+1) d))/\cZ Z (own Y []) w (own (.slice (some ⟨f,0,none⟩) (a.length+1) d) []) (q.setCell ⟨Z,1,none⟩ (.slice (some ⟨f,0,none⟩) (a.length+1) d))):=⟨v.out.1,D.out.trans v.out.2⟩;generalize q.setCell ⟨Z,1,none⟩ (.slice (some ⟨f,0,none⟩) (a.length+1) d)=W at i ⊢;have U:=K.out _ _ W i.out.1 i.out.2 (by rw[JH];exact ab);go_wp2_with fail
 refine U.mono ?_;rintro r w2 ⟨rfl,v2,F,ac⟩;have z:Hid _:=And.intro F (i.out.2.trans ac);go_wp2;go_end0
 rw[S.out];exact⟨rfl,v2,z.out.1,z.out.2⟩
end
theorem qi{g:Nat}{e:TypeId}{i:Nat×Nat}:∀(f:rt) (o:Nat) (w:Wd) (c:Array Value),w.heap[g]?=some (.cells c e i)->w.grownBy (w.setCells g o f) (some g):=by
 intro f;induction f with
 | nil=>intro o w c h;exact⟨rfl,rfl,rfl,JQ _,fun _ _ _=>rfl⟩
 | cons v r ih=>
   intro o w c h;have j:=JV w g o c e i v h;have m:(w.setCell ⟨g,o,none⟩ v).heap[g]?=some (.cells (c.setIfInBounds o v) e i):=by rw[j];exact J7 w g _ _ _ _ h
   have b:=ih (o+1) _ _ m;have a:w.grownBy (w.setCell ⟨g,o,none⟩ v) (some g):=by
    rw[j];exact⟨rfl,rfl,rfl,by simp[World.setRow],fun k _ d=>Kg w g k _ (fun e=>d (by rw[e]))⟩
   exact⟨b.os.trans a.os,b.tape.trans a.tape,b.output.trans a.output,Ki a.size b.size,fun k d l=>(b.block k (J0 d a.size) l).trans (a.block k d l)⟩
theorem Jr{P:Program}(w:Wd)(t u m e:TypeId)(i:TypeInfo)(r:P.underlying t=some (.slice e))(S:P.underlying u=some .string)(o:P.info? e=some i)(E:i.zero=some (.int .u8 0))(f:i.size=1)(I:i.bytes=1)(B:Nat)(v:Value)(l:dj)(s:dv)(G:w.ownsRow B e 1 v l.length (l.map cj))(F:B<=w.heap.size)(h0:0<s.size)(H:l.length+s.size<=140737488355328):∃g a x,(Builtin.append_ #[t,u] m #[v,.string s]).run P w=.ok (.slice (some ⟨g,0,none⟩) (l.length+s.size) a) x/\x.ownsRow B e 1 (.slice (some ⟨g,0,none⟩) (l.length+s.size) a) (l.length+s.size) (l.map cj++s.data.toList.map cj)/\w.grownBy x v.ownBlock/\(v.ownBlock=some g\/g=w.heap.size):=by
 have y:Src P i.size u (.string s) s.size (byteCells s) w:=by rw[f];exact Src.ofString w S s
 have q:l.length+s.size<=maxLen:=by unfold maxLen;omega
 have p:(l.map cj++s.data.toList.map cj).length=(l.length+s.size)*1:=by simp
 rcases G.2 with⟨rfl,T⟩|⟨g,a,A,rfl,W,n,Y,L,aa,J⟩
 ·obtain rfl:l=[]:=Kt.1 T
  have b:=LZ (P:=P) w t u m e i (.int .u8 0) r o E none 0 0 [] (by simp[Builtin.firstCells]) (.string s) s.size (byteCells s) y (by omega) (by simp at H ⊢;omega) (by rw[I];exact L2 (by omega) (by simp at H ⊢;omega));have d:=Mo w (0+s.size) 0 e;have h:=Lv w (0+s.size) 0 e (by simpa using q);generalize grownCap w (0+s.size) 0 e=c at b d h;refine⟨_,_,_,b,⟨p,.inr ⟨w.heap.size,c,_,rfl,F,JK w.drew _,d,h,?_,?_⟩⟩,⟨rfl,rfl,rfl,by simp,fun k D _=>JO w.drew _ D⟩,.inr rfl⟩
  ·have C:(Value.int IntKind.u8 0).cells.size=1:=rfl
   simp only[LH,LI,Mq,C,JH,KA,JY];omega
  ·rw[dY]
   simp only[KK,Lj,Ko];rw[Lu (by simp)]
 ·rw[Mp]at J
  by_cases K:l.length+s.size<=a
  ·have O:∀j,j<(byteCells s).length->(w.cell? ⟨g,0+l.length*i.size+j,none⟩).isSome=true:=by
    intro j z;rw[KA]at z;rw[f,JE w g _ A e (0,0) n];simp;omega
   have R:∀j,j<(byteCells s).length->w.frozen? ⟨g,0+l.length*i.size+j,none⟩=false:=by
    intro j z;rw[KA]at z;simp[World.frozen?,n]
   have b:=My (P:=P) w t u m e i r o g 0 l.length a (.string s) s.size (byteCells s) y K O R;obtain⟨V,U,a2,M,X⟩:=kr (byteCells s) (0+l.length*i.size) w A n (by rw[KA,f];omega);refine⟨_,_,_,b,⟨p,.inr ⟨g,a,V,rfl,W,U,K,L,by omega,?_⟩⟩,qi _ _ w A n,.inl rfl⟩;rw[M,f,J3];simp only[Mp];rw[J,dY];rw[Lu (by simp)]
  ·have Q:=G.cells (g:=g) rfl
   have N:(Builtin.firstCells i.size l.length (.slice (some ⟨g,0,none⟩) l.length a)).run P w.drew=.ok (l.map cj).toArray w.drew:=by
    rw[f];exact LK (P:=P) w.drew 1 l.length ⟨g,0,none⟩ l.length a (l.map cj) (by simp) (by simpa using Q)
   have b:=LZ (P:=P) w t u m e i (.int .u8 0) r o E (some ⟨g,0,none⟩) l.length a (l.map cj) N (.string s) s.size (byteCells s) y (by omega) (by unfold maxLen at q;omega) (by rw[I];exact L2 (by omega) (by omega));have d:=Mo w (l.length+s.size) a e;have h:=Lv w (l.length+s.size) a e q;generalize grownCap w (l.length+s.size) a e=c at b d h;refine⟨_,_,_,b,⟨p,.inr ⟨w.heap.size,c,_,rfl,F,JK w.drew _,d,h,?_,?_⟩⟩,⟨rfl,rfl,rfl,by simp,fun k D _=>JO w.drew _ D⟩,.inr rfl⟩
   ·have C:(Value.int IntKind.u8 0).cells.size=1:=rfl
    simp only[LH,LI,Mq,C,JH,KA,Kq];omega
   ·rw[dY]
    simp only[KK];rw[Lu (by simp)]
theorem nQ{P:Program}{d:Array Oper}{f:List Oper}{o:Oper}{a:Act}{Q:Exit->Act->Wd->Prop}{w:Wd}(D:o.guard=none)(x y:Operand)(t u:TypeId)(H:o.op=.call {callee:=.builtin .append,args:= #[x,y],argTypes:= #[t,u]})
 (e:TypeId) (i:TypeInfo) (M:P.underlying t=some (.slice e)) (z:P.underlying u=some .string) (m:P.info? e=some i) (n:i.zero=some (.int .u8 0)) (A:i.size=1) (C:i.bytes=1)
 (B:Nat) (v:Value) (l:dj) (s:dv) (j:a.eval x=v) (L:a.eval y=.string s) (I:0<s.size) (r:l.length+s.size<=140737488355328) (q:w.ownsRow B e 1 v l.length (l.map cj)) (k:B<=w.heap.size)
 (h:∀g c b,b.ownsRow B e 1 (.slice (some ⟨g,0,none⟩) (l.length+s.size) c) (l.length+s.size) (l.map cj++s.data.toList.map cj)->w.grownBy b v.ownBlock->(v.ownBlock=some g\/g=w.heap.size)->wpList P d Q f (a.put o.dst (.slice (some ⟨g,0,none⟩) (l.length+s.size) c)) b):wpList P d Q (o::f) a w:=by
 refine LC D fun K J=>?_
 obtain⟨g,c,b,p,F,E,G⟩:=Jr (P:=P) w t u o.type e i M z m n A C B v l s q k I r;unfold Oper.wp execOp;simp only[H,resolve,invoke,builtin,K6,Li,KP,Ln,JW,Ko,j,L,p];exact J _ _ (h g c b F E G)
theorem WZ.putG{a:Nat}{i d:Value}{l bs:dj}{w c:Wd}(h:WZ a i d l w){g cap:Nat}(j:c.ownsRow (a+1) 5 1 (.slice (some ⟨g,0,none⟩) (l.length+bs.length) cap) (l.length+bs.length) (l.map cj++bs.map cj))(f:w.grownBy c d.ownBlock)(r:d.ownBlock=some g\/w.heap.size<=g):WZ a i (.slice (some ⟨g,0,none⟩) (l.length+bs.length) cap) (l++bs) (c.setCell ⟨a,1,none⟩ (.slice (some ⟨g,0,none⟩) (l.length+bs.length) cap))/\cZ a (own d []) w (own (.slice (some ⟨g,0,none⟩) (l.length+bs.length) cap) []) (c.setCell ⟨a,1,none⟩ (.slice (some ⟨g,0,none⟩) (l.length+bs.length) cap)):=by
 have o:=h.wd.lt;have p:some a≠d.ownBlock:=fun e=>by have:=(cc h.row e.symm).1;omega
 have m:WD a i d c:=(f.block a o p).trans h.wd;have e:=JV c a 1 _ _ _ (.slice (some ⟨g,0,none⟩) (l.length+bs.length) cap) m;have v:=(cc j (g:=g) rfl).1;refine⟨⟨m.setO _,?_⟩,?_⟩
 ·rw[JH,Kj]
  refine fw j (fun k b=>?_);simp only[Value.ownBlock,Lg]at b;subst b;rw[e];exact Kg c a _ _ (by omega)
 ·have t:=f.size
  rw[e];refine⟨f.os,f.tape,f.output,by simp[World.setRow];omega,fun k b n q=>?_,fun k b=>?_⟩
  ·rw[Kg c a k _ n]
   exact f.block k b (fun e=>q (.inl e.symm))
  ·rcases b with b|⟨u,s,_⟩
   ·simp only[Value.ownBlock,Lg]at b
    subst b;rcases r with e|e
    ·exact .inl (.inl e)
    ·exact .inr (by omega)
   ·simp at s
theorem WZ.alloc{a:Nat}{b c:Value}{l:dj}{w:Wd}(h:WZ a b c l w)(o:Obj):WZ a b c l (w.alloc o):=⟨h.wd.alloc o,h.row.alloc o⟩
theorem eX(a:Nat)(O:Nat->Prop)(w:Wd)(o:Obj):cZ a O w O (w.alloc o):=⟨rfl,rfl,rfl,by simp,fun k b _ _=>JO _ _ b,fun _ h=>.inl h⟩
section
variable (Z:Nat) (Y X:Value) (l:dj) (w:Wd)
theorem vm(L:oa)(k:Nat)(n:Nd)(m:L[k]?=some n)(ab:k<=1000000000)(s:NR Z (own X []) Y L w)(h:WZ Z Y X l w)(hl:l.length<=4000000000)(x:n.kind=0):Calls prog 135 #[.pointer (some ⟨Z,0,none⟩),.int .i64 (k:Int)] w fun r z=>WQ Z Y (own X []) w (l++[110,117,108,108]) r z:=by
 obtain⟨q,t,u,C,B⟩:=Kf eb;have y:Hid _:=t;have aa:=(JG.1 m).1;obtain⟨g,A,kv,rfl,U,R,S,v,E,O,T,I,b4,N⟩:=s.at' k n m;obtain⟨ac,H,rfl⟩:=v.shape;rw[x]at E;obtain⟨b,a,rfl⟩:=h.shape;obtain⟨c0,P,J⟩:=h.wd.cell;have W:=h.wd.lt
 have D:Hid (some Z≠(Value.slice b l.length a).ownBlock):=fun e=>by have:=(cc h.row e.symm).1;omega
 have c:Hid (∀o,WZ Z (.slice (some ⟨g,0,none⟩) L.length A) (.slice b l.length a) l (w.alloc o)/\cZ Z (own (.slice b l.length a) []) w (own (.slice b l.length a) []) (w.alloc o)):=fun o=>⟨h.alloc o,eX _ _ _ _⟩
 go_enter func135,ntmps135;go_wp2_with (refine nQ rfl (.tmp 20) (.const (.string ⟨#[110,117,108,108]⟩)) 115 9 rfl 5 q JU Kl y.out u C B (Z+1) _ l ⟨#[110,117,108,108]⟩ rfl rfl (by decide) (by show l.length+4<=_;omega) (c.out _).1.row (by simp;omega) ?_;intro M V F j d i;have f:=(d.block Z (by simp;omega) D.out).trans (c.out _).1.wd;have s1:=(WD.cell f).2.1;have G:=(WD.cell f).2.2 1;have p:Hid _:=(c.out _).1.putG (bs:=[110,117,108,108]) j d (i.imp id (fun e=>Mt e.symm));clear f j d i)
 go_wp2;go_end0
 exact⟨rfl,_,p.out.1,(c.out _).2.trans p.out.2⟩
theorem xQ(L:oa)(k:Nat)(n:Nd)(f:L[k]?=some n)(ab:k<=1000000000)(i:NR Z (own X []) Y L w)(h:WZ Z Y X l w)(U:l.length<=4000000000)(p:n.kind=3)(E:n.text.length<=65536):Calls prog 135 #[.pointer (some ⟨Z,0,none⟩),.int .i64 (k:Int)] w fun r q=>WQ Z Y (own X []) w (l++dk n.text) r q:=by
 obtain⟨A,j,F,T,Q⟩:=Kf eb;have aa:=(JG.1 f).1;obtain⟨g,d,S,rfl,P,M,N,m,v,I,O,B,b4,G⟩:=i.at' k n f;obtain⟨ac,z,rfl⟩:=m.shape;rw[p]at v;obtain⟨b,a,rfl⟩:=h.shape;obtain⟨W,J,C⟩:=h.wd.cell
 have s:Hid (∀o,WZ Z (.slice (some ⟨g,0,none⟩) L.length d) (.slice b l.length a) l (w.alloc o)/\cZ Z (own (.slice b l.length a) []) w (own (.slice b l.length a) []) (w.alloc o)):=fun o=>⟨h.alloc o,eX _ _ _ _⟩
 have y:Hid _:=fun o=>by
  have:=rA Z (.slice (some ⟨g,0,none⟩) L.length d) (.slice b l.length a) l (w.alloc o) ⟨n.text.toArray⟩ (by show n.text.toArray.size<=_;simp;omega) (by omega) (h.alloc o);simpa using this
 go_enter func135,ntmps135;go_wp2_with fail
 refine(y.out _).mono ?_;rintro r w1 ⟨rfl,x,t,u⟩;have c:Hid _:=And.intro t ((s.out _).2.trans u);go_wp2;go_end0
 exact⟨rfl,x,c.out.1,c.out.2⟩
end
section
variable (Z:Nat) (Y X:Value) (l:dj) (w:Wd)
theorem xC(L:oa)(k:Nat)(n:Nd)(p:L[k]?=some n)(ag:k<=1000000000)(u:NR Z (own X []) Y L w)(h:WZ Z Y X l w)(F:Nat->dj)(H:l.length+(ct F n.kids n.kids.length).length+2<=4000000000)(y:n.kind=4)(t:n.kids.length<=1000000)(E:∀k∈n.kids,∀(d:Value) (f:dj) (a:Wd),WZ Z Y d f a->cZ Z (own X []) w (own d []) a->f.length+(F k).length<=4000000000->Calls prog 135 #[.pointer (some ⟨Z,0,none⟩),.int .i64 (k:Int)] a fun r v=>WQ Z Y (own d []) a (f++F k) r v):Calls prog 135 #[.pointer (some ⟨Z,0,none⟩),.int .i64 (k:Int)] w fun r a=>WQ Z Y (own X []) w (l++(91::ct F n.kids n.kids.length++[93])) r a:=by
 obtain⟨N,x,R,ac,aa⟩:=Kf eb;have af:=(JG.1 p).1;obtain⟨g,m,kv,rfl,g1,g2,g3,j,I,U,b2,O,b4,S⟩:=u.at' k n p;obtain⟨J,q,rfl⟩:=j.shape;rw[y]at I;obtain⟨c,b,rfl⟩:=h.shape;obtain⟨c0,V,P⟩:=h.wd.cell
 have A:Hid (∀o,WZ Z (.slice (some ⟨g,0,none⟩) L.length m) (.slice c l.length b) l (w.alloc o)/\cZ Z (own (.slice c l.length b) []) w (own (.slice c l.length b) []) (w.alloc o)):=fun o=>⟨h.alloc o,eX _ _ _ _⟩
 have M:Hid _:=fun o=>
  FF Z (.slice (some ⟨g,0,none⟩) L.length m) (.slice c l.length b) l (w.alloc o) 91 93 F n.kids (.slice J n.kids.length q) t (j.chg (eX _ _ _ _)) (h.alloc o) H (fun k G d f a z C s=>E k G d f a z ((eX _ _ _ _).trans C) s)
 go_enter func135,ntmps135;go_wp2_with fail
 refine(M.out _).mono ?_;rintro r w1 ⟨rfl,K,B,D⟩;have i:Hid _:=And.intro B ((A.out _).2.trans D);go_wp2;go_end0
 exact⟨rfl,K,i.out.1,i.out.2⟩
end
def ma(b:Bool):dv:=if b then⟨#[116,114,117,101]⟩else⟨#[102,97,108,115,101]⟩
theorem BE(b:Bool)(B:Nat)(v:Value)(l:dj)(w:Wd)(m:w.ownsRow B 5 1 v l.length (l.map cj))(j:B<=w.heap.size)(C:l.length<=4000000000):Calls prog 194 #[v,.bool b] w fun r t=>∃g h,r=.returned (.slice (some ⟨g,0,none⟩) (l.length+(ma b).size) h)/\t.ownsRow B 5 1 (.slice (some ⟨g,0,none⟩) (l.length+(ma b).size) h) (l.length+(ma b).size) (l.map cj++(ma b).data.toList.map cj)/\w.grownBy t v.ownBlock/\(v.ownBlock=some g\/g=w.heap.size):=by
 obtain⟨k,y,q,o,n⟩:=Kf eb;have s:Hid _:=y;have H:Hid _:=m;obtain⟨p,h,rfl⟩:∃p h,v=.slice p l.length h:=by
  rcases m.2 with⟨a,b⟩|⟨g,c,A,a,_⟩
  ·exact⟨none,0,by rw[a,b]⟩
  ·exact⟨_,_,a⟩
 cases b with
 | true=>
   go_enter func194,ntmps194;go_wp2_with (refine nQ rfl (.tmp 6) (.const (.string ⟨#[116,114,117,101]⟩)) 115 9 rfl 5 k JU Kl s.out q o n B _ l ⟨#[116,114,117,101]⟩ rfl rfl (by decide) (by show l.length+4<=_;omega) H.out j ?_;intro z x u f e i;have d:Hid _:=And.intro f (And.intro e i);clear f e i)
   go_wp2;go_ret;exact⟨_,_,rfl,d.out.1,d.out.2.1,d.out.2.2⟩
 | false=>
   go_enter func194,ntmps194;go_wp2_with (refine nQ rfl (.tmp 8) (.const (.string ⟨#[102,97,108,115,101]⟩)) 115 9 rfl 5 k JU Kl s.out q o n B _ l ⟨#[102,97,108,115,101]⟩ rfl rfl (by decide) (by show l.length+5<=_;omega) H.out j ?_;intro z x u f e i;have d:Hid _:=And.intro f (And.intro e i);clear f e i)
   go_wp2;go_ret;exact⟨_,_,rfl,d.out.1,d.out.2.1,d.out.2.2⟩
open Go.Shelf
theorem vW(n:Nat):dR n=Lib.decDigits n:=by
 induction n using Nat.strongRecOn with
 | ind n ih=>
   rw[dR,Lib.decDigits];split
   ·rfl
   ·rw[ih (n/10) (by omega)]
theorem qU(n:Int):ew n=Lib.itoa n:=by
 unfold ew Lib.itoa;split
 ·rw[vW];congr 2;omega
 ·rw[vW]
def AQ(e:TypeId)(B:Nat)(v:Value)(l ds:dj)(w:Wd)(r:Ending)(w':Wd):Prop:=
 ∃g cap,r=.returned (.slice (some ⟨g,0,none⟩) (l.length+ds.length) cap)/\w'.ownsRow B e 1 (.slice (some ⟨g,0,none⟩) (l.length+ds.length) cap) (l.length+ds.length) (l.map cj++ds.map cj)/\w.grownBy w' v.ownBlock/\(v.ownBlock=some g\/w.heap.size<=g)
theorem sD{w w' e:Wd}{b:Option Nat}(a:w.grownBy w' none)(c:w'.grownBy e b):w.grownBy e b:=
 ⟨c.os.trans a.os,c.tape.trans a.tape,c.output.trans a.output,Ki a.size c.size,fun k d f=>(c.block k (J0 d a.size) f).trans (a.block k d (by simp))⟩
theorem sF(w:Wd)(k:Nat)(os:Array Obj):w.grownBy (Sort.grow (w.drewN k) os) none:=
 ⟨rfl,rfl,rfl,Lib.size_grow w k os,fun j a _=>by
   show(w.heap++os)[j]?=_
   rw[Array.getElem?_append_left a]⟩
variable {P:Program} {ρ:Ren}
theorem xt(L:LaysM.n288 P ρ)(B u:Nat)(x:u<100)(d:Value)(l:dj)(w:Wd)(p:w.ownsRow B (ρ.t 5) 1 d l.length (l.map cj))(v:B<=w.heap.size)(Q:l.length<=4000000100):Calls P (ρ.f 288) #[d,.int .u64 u,.int .i64 10] w fun e k=>AQ (ρ.t 5) B d l (Lib.decDigits u) w e k:=by
 have G:=L.t5;have W:=L.t53;have t3:=L.t3;have ae:∀q w,(callFunc (ρ.f 283) q).run P w=.ok (.enter (ρ.f 283) q) w:=enters_of L.f283 (by kernel_rfl) rfl;obtain⟨C,s,t,E,y⟩:=Kf L.i5;have ak:1<=(Lib.decDigits u).length/\(Lib.decDigits u).length<=20:=by
  rw[Lib.decDigits_length];by_cases j:u<10
  ·rw[Lib.nDigits_small j];omega
  ·rw[Lib.nDigits_big j,Lib.nDigits_small (show u/10<10 by omega)];omega
 have f:(⟨(Lib.decDigits u).toArray⟩:dv).size=(Lib.decDigits u).length:=by simp[ByteArray.size]
 have H:Hid _:=p;obtain⟨h,i,rfl⟩:∃h i,d=.slice h l.length i:=by
  rcases p.2 with⟨a,b⟩|⟨g,c,cu,a,_⟩
  ·exact⟨none,0,by rw[a,b]⟩
  ·exact⟨_,_,a⟩
 go_enter L.f288,Body.n288_ntmps ρ
 go_wp2_with (first
  | (go_at_fn (ρ.f 283);refine(Any.internal_strconv_small {L with} u x _).mono ?_;rintro e k ⟨rfl,rfl⟩)
  | (at_builtin;refine nQ rfl _ _ (ρ.t 37) (ρ.t 9) rfl (ρ.t 5) C L.t37 L.t9 s t E y B _ l ⟨(Lib.decDigits u).toArray⟩ rfl rfl (by rw[f];omega) (by rw[f];omega) H.out v ?_))
 intro n m A o r D;try rw[f]at o
 have z:Hid (AQ (ρ.t 5) B (.slice h l.length i) l (Lib.decDigits u) _ (.returned (.slice (some ⟨n,0,none⟩) (l.length+(Lib.decDigits u).length) m)) A):=⟨n,m,rfl,o,r,D.imp id (fun e=>Mt e.symm)⟩;go_wp2;go_ret;have:=z.out;first|exact this|(rw[f];exact this)
theorem Dn(L:LaysM.n288 P ρ)(B u:Nat)(hu:100<=u)(t:u<18446744073709551616)(m:Value)(l:dj)(w:Wd)(G:w.ownsRow B (ρ.t 5) 1 m l.length (l.map cj))(aj:B<=w.heap.size)(ah:l.length<=4000000100)(U:Lib.TabIs P w "internal/strconv.uint64pow10" .u64 Lib.pow10Tab):Calls P (ρ.f 288) #[m,.int .u64 u,.int .i64 10] w fun e q=>AQ (ρ.t 5) B m l (Lib.decDigits u) w e q:=by
 have t5:=L.t5;have z5:=L.z5;have aA:=L.t171;have aB:=L.v171;have z0:=L.z0;have v0:=L.v0;have ao:=L.t173;have ag:=L.a173;have ak:=L.z173;have ax:=L.v173;have am:∀f w,(callFunc (ρ.f 284) f).run P w=.ok (.enter (ρ.f 284) f) w:=enters_of L.f284 (by kernel_rfl) rfl;have aD:∀f w,(callFunc (ρ.f 285) f).run P w=.ok (.enter (ρ.f 285) f) w:=enters_of L.f285 (by kernel_rfl) rfl;obtain⟨T,K,M,ab,O⟩:=Kf L.i5;have D:1<=u:=by omega
 have ac:Lib.nDigits u<=20:=by have:=Lib.numDigits_eq u D t;split at this<;>omega
 have Z:0<Lib.nDigits u:=by rw[Lib.nDigits_big (by omega)];omega
 have aa:P.arrayLen (ρ.t 171)=24:=by simp[Program.arrayLen,L.t171]
 have af:∀W,(Instr.sliceAt (ρ.t 171) (.pointer (some ⟨w.heap.size,0,none⟩)) none (some (.int .i64 (Lib.nDigits u:Int))) none).run P W=.ok (.slice (some ⟨w.heap.size,0,none⟩) (Lib.nDigits u) 24) W:=fun W=>by
  rw[run_sliceAt_array_h W (ρ.t 171) ⟨w.heap.size,0,none⟩ (by simp[Program.arrayLen,Program.elem,L.t171]) .i64 (Lib.nDigits u:Int) (by omega) (by rw[aa];omega)];go_simp
 have F:=Lib.holds_zero0 w (ρ.t 171) (Lib.nDigits u) (by omega);have y:=Any.internal_strconv_formatBase10 {L with} w.heap.size 0 24 u (Array.replicate (Lib.nDigits u) 0) (w.alloc (.cells Lib.zeros24 (ρ.t 171))) F (by rw[Mn];exact Lib.lt_pow_nDigits u) t (by rw[Mn];omega);rw[Mn]at y;have N:=Lib.hid F;have iu:(100:Int)<=(u:Int):=by omega
 have H:Hid _:=G;obtain⟨i,n,rfl⟩:∃i n,m=.slice i l.length n:=by
  rcases G.2 with⟨a,b⟩|⟨g,c,cu,a,_⟩
  ·exact⟨none,0,by rw[a,b]⟩
  ·exact⟨_,_,a⟩
 go_enter L.f288,Body.n288_ntmps ρ
 go_wp2_with (first
  | (go_at_fn (ρ.f 284);refine(Any.internal_strconv_numDigits {L with} u D t _ (Lib.tabIs_alloc U _)).mono ?_;rintro e q ⟨rfl,rfl⟩))
 go_at_fn (ρ.f 285)
 refine y.mono ?_;rintro e q ⟨rfl,k,v',d,rfl,s⟩;have z:∀j o,((Lib.decDigits u).map cj)[j]?=some o->((Sort.putRow (fun(b:UInt8)=>Value.int .u8 (b.toNat:Int)) (w.alloc (.cells Lib.zeros24 (ρ.t 171))) w.heap.size 0 d).drewN k).cell? ((⟨w.heap.size,0,none⟩:Addr).add j)=some o:=by
  intro j o r;have h:j<(Lib.decDigits u).length:=by
   have h5:=(JG.1 r).1;rwa [Kq]at h5
  have V:((Lib.decDigits u).map cj)[j]?=some (Value.int .u8 ((Lib.decDigits u)[j].toNat:Int)):=by simp[cj,h]
  rw[V]at r;cases r;rw[Lib.row_is_numeral s j h,Lib.add_plain,World.cell?_drewN];exact Sort.cell?_putRow (fun(b:UInt8)=>Value.int .u8 (b.toNat:Int)) _ w.heap.size 0 _ d N.out (by rw[s.size,Mn]) j (by rw[s.size];rw[Lib.decDigits_length]at h;exact h)
 obtain⟨v,C⟩:=Lib.fin_at w (.cells Lib.zeros24 (ρ.t 171)) d k 0;have I:((Sort.putRow (fun(b:UInt8)=>Value.int .u8 (b.toNat:Int)) (w.alloc (.cells Lib.zeros24 (ρ.t 171))) w.heap.size 0 d).drewN k).ownsRow B (ρ.t 5) 1 (.slice i l.length n) l.length (l.map cj):=by rw[C];exact Lib.ownsRow_grow H.out k v
 have p:w.grownBy ((Sort.putRow (fun(b:UInt8)=>Value.int .u8 (b.toNat:Int)) (w.alloc (.cells Lib.zeros24 (ρ.t 171))) w.heap.size 0 d).drewN k) none:=by rw[C];exact sF w k v
 generalize (Sort.putRow (fun(b:UInt8)=>Value.int .u8 (b.toNat:Int)) (w.alloc (.cells Lib.zeros24 (ρ.t 171))) w.heap.size 0 d).drewN k=X at z I p ⊢;have ae:=p.size;go_wp2_with (at_builtin;refine L8 _ rfl _ _ (ρ.t 37) rfl B (ρ.t 5) T (.int .u8 0) 1 1 L.t37 K M ab O rfl (by decide) _ _ _ rfl I ⟨w.heap.size,0,none⟩ (Lib.nDigits u) 24 ((Lib.decDigits u).map cj) rfl ?c0 z ?c2 ?c1 ?c3 ?c4 ?c5 X.heap.size rfl ?_)
 case c0=>rw[Kq,Lib.decDigits_length,Mp]
 case c2=>intro o x;simp only[Ly]at x;obtain⟨b,_,rfl⟩:=x;rfl
 case c1=>exact Z
 case c3=>unfold maxLen;omega
 case c4=>omega
 case c5=>omega
 intro E A S J R Y _;have Q:Hid (AQ (ρ.t 5) B (.slice i l.length n) l (Lib.decDigits u) w (.returned (.slice (some ⟨E,0,none⟩) (l.length+Lib.nDigits u) A)) S):=by
  refine⟨E,A,by rw[Lib.decDigits_length],by rw[Lib.decDigits_length];exact J,sD p R,Y.imp id (fun e=>by omega)⟩
 go_wp2;go_ret;exact Q.out
theorem wj(L:LaysM.n288 P ρ)(B u:Nat)(g:u<18446744073709551616)(a:Value)(l:dj)(w:Wd)(c:w.ownsRow B (ρ.t 5) 1 a l.length (l.map cj))(b:B<=w.heap.size)(d:l.length<=4000000100)(f:Lib.TabIs P w "internal/strconv.uint64pow10" .u64 Lib.pow10Tab):Calls P (ρ.f 288) #[a,.int .u64 u,.int .i64 10] w fun e i=>AQ (ρ.t 5) B a l (Lib.decDigits u) w e i:=by
 by_cases h:u<100
 ·exact xt L B u h a l w c b d
 ·exact Dn L B u (by omega) g a l w c b d f
section
variable {P:Program} {ρ:Ren}
theorem AQ.front{e:TypeId}{B i C:Nat}{f:Value}{l a:dj}{b:UInt8}{w u w2:Wd}{r:Ending}(o:Obj)(d:(w.alloc o).grownBy u f.ownBlock)(s:f.ownBlock=some i\/i=w.heap.size+1)(h:AQ e B (.slice (some ⟨i,0,none⟩) (l++[b]).length C) (l++[b]) a u r w2):AQ e B f l (b::a) w r w2:=by
 obtain⟨g,x,n,j,c,m⟩:=h;have z:(l++[b]).length+a.length=l.length+(b::a).length:=by simp;omega
 have A:(l++[b]).map cj++a.map cj=l.map cj++(b::a).map cj:=by simp
 rw[z]at n j;rw[A]at j;have v:=d.size;have D:=c.size;simp only[World.alloc]at v;simp only[Array.size_push]at v;refine⟨g,x,n,j,?_,?_⟩
 ·refine⟨c.os.trans d.os,c.tape.trans d.tape,c.output.trans d.output,by omega,fun k y q=>?_⟩
  have p:=d.block k (by simp;omega) q;rw[JO _ _ y]at p;refine(c.block k (by omega) (fun t=>?_)).trans p;simp only[Value.ownBlock,Lg]at t;subst t;rcases s with h|h
  ·exact q h.symm
  ·omega
 ·simp only[Value.ownBlock,Lg]at m
  rcases m with rfl|m
  ·rcases s with h|h
   ·exact .inl h
   ·exact .inr (by omega)
  ·exact .inr (by omega)
theorem Gu(L:LaysM.n249 P ρ)(B:Nat)(i:Int)(h0: -9223372036854775808<=i)(h1:i<=9223372036854775807)(d:Value)(l:dj)(w:Wd)(s:w.ownsRow B (ρ.t 5) 1 d l.length (l.map cj))(D:B<=w.heap.size)(ag:l.length<=4000000000)(G:Lib.TabBelow P B w "internal/strconv.uint64pow10" .u64 Lib.pow10Tab):Calls P (ρ.f 249) #[d,.int .i64 i,.int .i64 10] w fun e O=>AQ (ρ.t 5) B d l (Lib.itoa i) w e O:=by
 have t5:=L.t5;have z5:=L.z5;have v5:=L.v5;have aq:=Ns L.t37;have t2:=L.t2;have v3:=L.v3;have ai:=L.t53;have an:=L.a53;have am:=L.z53;have ao:=L.v53;have t4:=L.t4;have a4:=L.a4;have z4:=L.z4;have v4:=L.v4;have ah:∀K w,(callFunc (ρ.f 288) K).run P w=.ok (.enter (ρ.f 288) K) w:=enters_of L.f288 (by kernel_rfl) rfl;obtain⟨V,M,N,aa,S⟩:=Kf L.i5;have H:Hid _:=s;have HO:Hid _:=fun o=>s.alloc o
 have Z:Hid (∀k,d.ownBlock=some k->B<=k):=fun k T=>(cc s T).1
 obtain⟨t,y,rfl⟩:∃t y,d=.slice t l.length y:=by
  rcases s.2 with⟨a,b⟩|⟨g,c,cu,a,_⟩
  ·exact⟨none,0,by rw[a,b]⟩
  ·exact⟨_,_,a⟩
 by_cases ae:i<0
 ·obtain⟨u,rfl⟩:∃u:Nat,i= -(u:Int):=⟨i.natAbs,by omega⟩
  have W:1<=u:=by omega
  have x:u<18446744073709551616:=by omega
  have ak:IntKind.u64.wrap (-IntKind.u64.wrap (-(u:Int)))=(u:Int):=by rw[L4,L4];omega
  rw[Lib.itoa_neg u W];go_enter L.f249,Body.n249_ntmps ρ;go_wp2_with (at_builtin;refine L8 _ rfl _ _ (ρ.t 37) rfl B (ρ.t 5) V (.int .u8 0) 1 1 L.t37 M N aa S rfl (by decide) _ l.length (l.map cj) rfl (HO.out _) ⟨w.heap.size,0,none⟩ 1 1 [Value.int .u8 45] rfl rfl (by intro j u' n;match j,n with|0,n=>simp at n;subst n;simp[Addr.add]) (by intro u' A;simp at A;subst A;rfl) (by decide) (by unfold maxLen;omega) (by omega) (by simp;omega) (w.heap.size+1) (by simp) ?_)
  intro E F p U C ab _;have X:p.ownsRow B (ρ.t 5) 1 (.slice (some ⟨E,0,none⟩) (l++[45]).length F) (l++[45]).length ((l++[45]).map cj):=by
   have ac:(l++[45]).map cj=l.map cj++[Value.int .u8 45]:=by simp[cj]
   rw[ac,JH];exact U
  have J:=((JI B w).alloc D _).grown C (by simp;omega) Z.out;have q:=wj {L with} B u x _ (l++[45]) p X (by have:=J.size;omega) (by simp;omega) (G p J);have z:Hid (∀{r:Ending} {m:Wd},AQ (ρ.t 5) B (.slice (some ⟨E,0,none⟩) (l++[45]).length F) (l++[45]) (Lib.decDigits u) p r m->AQ (ρ.t 5) B (.slice t l.length y) l (45::Lib.decDigits u) w r m):=fun h=>AQ.front _ C ab h
  have R:(l++[45]).length=l.length+1:=by simp
  rw[R]at q z;go_wp2_with (go_at_fn (ρ.f 288);refine q.mono ?_;rintro e m f;have v:=Lib.hid (z.out f);obtain⟨Y,Q,rfl,_,_,_⟩:=f)
  go_wp2;go_ret;have I:=v.out;rw[JH]at I;exact I
 ·obtain⟨u,rfl⟩:∃u:Nat,i=u:=⟨i.toNat,by omega⟩
  have x:u<18446744073709551616:=by omega
  rw[Lib.itoa_nonneg];have q:=wj {L with} B u x _ l w H.out D (by omega) G.here;go_enter L.f249,Body.n249_ntmps ρ;go_wp2_with (go_at_fn (ρ.f 288);refine q.mono ?_;rintro e m f;have v:=Lib.hid f;obtain⟨Y,Q,rfl,_,_,_⟩:=f)
  go_wp2;first|go_ret|go_ret2
  exact v.out
theorem FR(L:LaysM.n176 P ρ)(B:Nat)(i:Int)(o: -9223372036854775808<=i)(m:i<=9223372036854775807)(a:Value)(l:dj)(w:Wd)(n:w.ownsRow B (ρ.t 5) 1 a l.length (l.map cj))(g:B<=w.heap.size)(f:l.length<=4000000000)(d:Lib.TabBelow P B w "internal/strconv.uint64pow10" .u64 Lib.pow10Tab):Calls P (ρ.f 176) #[a,.int .i64 i,.int .i64 10] w fun e h=>AQ (ρ.t 5) B a l (Lib.itoa i) w e h:=by
 have p:=L.t5;have I:∀c w,(callFunc (ρ.f 249) c).run P w=.ok (.enter (ρ.f 249) c) w:=enters_of L.f249 (by kernel_rfl) rfl;have k:=Gu {L with} B i o m a l w n g f d;go_enter L.f176,Body.n176_ntmps ρ;go_wp2_with (go_at_fn (ρ.f 249);refine k.mono ?_;rintro e z b;have j:=Lib.hid b;obtain⟨x,y,rfl,_,_,_⟩:=b)
 go_wp2;go_ret;exact j.out
end
theorem GD(B:Nat)(i:Int)(g: -9223372036854775808<=i)(d:i<=9223372036854775807)(a:Value)(l:dj)(w:Wd)(f:w.ownsRow B 5 1 a l.length (l.map cj))(b:B<=w.heap.size)(h:l.length<=4000000000)(c:Lib.TabBelow prog B w "internal/strconv.uint64pow10" .u64 Lib.pow10Tab):Calls prog 167 #[a,.int .i64 i,.int .i64 10] w fun e j=>AQ 5 B a l (ew i) w e j:=by
 rw[qU];exact FR laysM176 B i g d a l w f b h c
theorem CV(b:Bool)(B:Nat)(v:Value)(l:dj)(w:Wd)(n:w.ownsRow B 5 1 v l.length (l.map cj))(f:B<=w.heap.size)(j:l.length<=4000000000):Calls prog 166 #[v,.bool b] w fun r a=>AQ 5 B v l (ma b).data.toList w r a:=by
 have m:Calls prog 194 #[v,.bool b] w fun r a=>AQ 5 B v l (ma b).data.toList w r a:=by
  refine(BE b B v l w n f j).mono ?_;rintro r a ⟨g,o,h,p,d,k⟩;exact⟨g,o,h,p,d,k.imp id (fun e=>Mt e.symm)⟩
 go_enter func166,ntmps166;go_wp2_with (go_at_call 194;refine m.mono ?_;rintro e s c;have i:=Lib.hid c;obtain⟨t,q,rfl,_,_,_⟩:=c)
 go_wp2;go_ret;exact i.out
theorem AQ.put{a:Nat}{j c:Value}{l n:dj}{w b:Wd}{r:Ending}(h:WZ a j c l w)(p:AQ 5 (a+1) c l n w r b):∃d i f,r=.returned (.slice (some ⟨d,0,none⟩) i f)/\b.cell? ⟨a,1,none⟩=some c/\b.frozen? ⟨a,1,none⟩=false/\WZ a j (.slice (some ⟨d,0,none⟩) i f) (l++n) (b.setCell ⟨a,1,none⟩ (.slice (some ⟨d,0,none⟩) i f))/\cZ a (own c []) w (own (.slice (some ⟨d,0,none⟩) i f) []) (b.setCell ⟨a,1,none⟩ (.slice (some ⟨d,0,none⟩) i f)):=by
 obtain⟨g,t,rfl,s,m,q⟩:=p;have o:some a≠c.ownBlock:=fun e=>by have:=(cc h.row e.symm).1;omega
 have k:WD a j c b:=(m.block a h.wd.lt o).trans h.wd;have P:=h.putG s m q;exact⟨_,_,_,rfl,k.cell.2.1,k.cell.2.2 1,P.1,P.2⟩
section
variable (Z:Nat) (Y X:Value) (l:dj) (w:Wd)
theorem WZ.drew{Z:Nat}{Y X:Value}{l:dj}{w:Wd}(h:WZ Z Y X l w):WZ Z Y X l w.drew:=⟨h.wd,h.row⟩
theorem sQ{Z:Nat}{O a:Nat->Prop}{w b:Wd}(h:cZ Z O w.drew a b):cZ Z O w a b:=⟨h.os,h.tape,h.output,h.size,h.block,h.own⟩
theorem uB(L:oa)(k:Nat)(n:Nd)(p:L[k]?=some n)(ab:k<=1000000000)(t:NR Z (own X []) Y L w)(h:WZ Z Y X l w)(E:l.length<=4000000000)(x:n.kind=1):Calls prog 135 #[.pointer (some ⟨Z,0,none⟩),.int .i64 (k:Int)] w fun r y=>WQ Z Y (own X []) w (l++(if n.num=1 then [116,114,117,101]else [102,97,108,115,101])) r y:=by
 have aa:=(JG.1 p).1;obtain⟨g,C,W,rfl,U,Q,R,v,F,O,S,I,b4,M⟩:=t.at' k n p;obtain⟨ac,H,rfl⟩:=v.shape;rw[x]at F;obtain⟨j,i,rfl⟩:=h.shape;obtain⟨c0,N,J⟩:=h.wd.cell;have V:=h.wd.lt
 have s:(ma (decide (n.num=1))).data.toList=(if n.num=1 then [116,114,117,101]else [102,97,108,115,101]):=by
  by_cases a:n.num=1<;>simp[a,ma]
 generalize (if n.num=1 then [116,114,117,101]else [102,97,108,115,101]:dj)=T at *;have B:Hid (∀o,Calls prog 166 #[.slice j l.length i,.bool (decide (n.num=1))] (w.alloc o).drew fun r c=>∃b f d,r=.returned (.slice (some ⟨b,0,none⟩) f d)/\c.cell? ⟨Z,1,none⟩=some (.slice j l.length i)/\c.frozen? ⟨Z,1,none⟩=false/\WQ Z (.slice (some ⟨g,0,none⟩) L.length C) (own (.slice j l.length i) []) w (l++T) (.returned (.tuple #[])) (c.setCell ⟨Z,1,none⟩ (.slice (some ⟨b,0,none⟩) f d))):=fun o=>by
  refine(CV _ (Z+1) _ l (w.alloc o).drew (h.alloc o).drew.row (by simp;omega) E).mono ?_;intro r c a;obtain⟨b,f,d,q,D,z,m,u⟩:=AQ.put (h.alloc o).drew a;rw[s]at m;exact⟨b,f,d,q,D,z,rfl,_,m,(eX _ _ _ o).trans (sQ u)⟩
 go_enter func135,ntmps135;go_wp2
 go_region_with (go_at_call 166;refine(B.out _).mono ?_;rintro e c ⟨b,f,d,rfl,s1,G,a⟩;have A:=Lib.hid a;clear a)
 all_goals
  go_wp2;go_end0
  exact A.out
theorem xq(L:oa)(k:Nat)(n:Nd)(s:L[k]?=some n)(ac:k<=1000000000)(v:NR Z (own X []) Y L w)(h:WZ Z Y X l w)(H:l.length<=4000000000)(A:n.kind=2)(J: -9223372036854775808<=n.num)(E:n.num<=9223372036854775807)(u:Lib.TabBelow prog Z w "internal/strconv.uint64pow10" .u64 Lib.pow10Tab):Calls prog 135 #[.pointer (some ⟨Z,0,none⟩),.int .i64 (k:Int)] w fun r q=>WQ Z Y (own X []) w (l++ew n.num) r q:=by
 have ab:=(JG.1 s).1;obtain⟨g,F,kv,rfl,g1,U,V,z,I,T,W,N,b4,R⟩:=v.at' k n s;obtain⟨ae,M,rfl⟩:=z.shape;rw[A]at I;obtain⟨p,m,rfl⟩:=h.shape;obtain⟨c0,S,O⟩:=h.wd.cell;have aa:=h.wd.lt
 have D:Hid (∀o,Calls prog 167 #[.slice p l.length m,.int .i64 n.num,.int .i64 10] (w.alloc o).drew fun r c=>∃b f d,r=.returned (.slice (some ⟨b,0,none⟩) f d)/\c.cell? ⟨Z,1,none⟩=some (.slice p l.length m)/\c.frozen? ⟨Z,1,none⟩=false/\WQ Z (.slice (some ⟨g,0,none⟩) L.length F) (own (.slice p l.length m) []) w (l++ew n.num) (.returned (.tuple #[])) (c.setCell ⟨Z,1,none⟩ (.slice (some ⟨b,0,none⟩) f d))):=fun o=>by
  refine(GD (Z+1) n.num J E _ l (w.alloc o).drew (h.alloc o).drew.row (by simp;omega) H ?_).mono ?_
  ·intro q a
   refine u q ⟨a.os,a.tape,a.output,by have:=a.size;simp at this;omega,fun j hj=>?_⟩;have:=a.block j (by omega);rw[Lz,JO _ _ (by omega)]at this;exact this
  intro r c i;obtain⟨b,f,d,t,G,B,y,x⟩:=AQ.put (h.alloc o).drew i;exact⟨b,f,d,t,G,B,rfl,_,y,(eX _ _ _ o).trans (sQ x)⟩
 go_enter func135,ntmps135;go_wp2
 go_region_with (go_at_call 167;refine(D.out _).mono ?_;rintro e c ⟨b,f,d,rfl,s1,K,i⟩;have C:=Lib.hid i;clear i)
 all_goals
  go_wp2;go_end0
  exact C.out
end
end Go.Proofs.YtihboehpeehlmaaGreatDoor
