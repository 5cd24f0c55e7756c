import Derived.Test.YtbbopknnoamkbaaGreatDoorK4
import Derived.Test.YtbbopknnoamkbaaGreatDoorK2
import Derived.Test.YtbbopknnoamkbaaGreatDoorCPlain
set_option maxHeartbeats 4000000
set_option maxRecDepth 4000
namespace Go.Proofs.YtbbopknnoamkbaaGreatDoor
open Go.RowKit
set_option linter.unusedVariables false
def CVal(d dp:Nat):Prop:=∀(bp:Nat) (s:ByteArray) (i:Nat) (ns:List Nd) (key:List UInt8) (vL:Value) (kvs:List Value) (w:World),s.size≤65536→9≤bp→CN bp s i ns dp vL kvs w→GV w→i≤s.size→ns.length≤i→WFk ns→
 Calls Tryz.prog 74 #[.pointer (some ⟨bp,0,none⟩),.string ⟨key.toArray⟩] w fun r w'=>VQ bp s i ns key dp (own vL kvs) w (.int .i64 (ns.length:Int)) r w' (valL d (sfx s i) i)
def KQ(bp:Nat)(s:ByteArray)(i:Nat)(ns:List Nd)(u:Nat)(key:List UInt8)(dp:Nat)(O:Nat→Prop)(w:World)(r:Ending)(w':World):JR JT→Prop
 | .ok (t,n)=>r=.returned (.tuple #[])∧∃vL' kvs',CN bp s (i+n) (addKid ns (some u) ns.length++flat ns.length key t) dp vL' kvs' w'∧Chg bp O w (own vL' kvs') w'
 | .error (e,a)=>0<e∧r=.panicked (flt e a)∧Chg bp O w (fun _=>False) w'
theorem modify_appL{α:Type}(ns ms:List α)(u:Nat)(f:α→α)(h:u<ns.length):(ns++ms).modify u f=ns.modify u f++ms:=by
 induction ns generalizing u with
 | nil=>simp at h
 | cons a r ih=>
   match u with
   | 0=>simp
   | u+1=>simp only[List.cons_append,List.modify_succ_cons];rw[ih u (by simpa using h)]
section
variable (bp:Nat) (s:ByteArray) (i:Nat) (ns:List Nd) (u:Nat) (key:List UInt8) (dp:Nat) (vL:Value) (kvs:List Value) (w:World)
theorem ckid(d:Nat)(hv:CVal d dp)(hs:s.size≤65536)(hbp:9≤bp)(h:CN bp s i ns dp vL kvs w)(hG:GV w)(hi:i≤s.size)(hl:ns.length≤i)(hw:WFk ns)(hu:u<ns.length):Calls Tryz.prog 149 #[.pointer (some ⟨bp,0,none⟩),.int .i64 (u:Int),.string ⟨key.toArray⟩] w fun r w'=>KQ bp s i ns u key dp (own vL kvs) w r w' (valL d (sfx s i) i):=by
 have hc:=hv bp s i ns key vL kvs w hs hbp h hG hi hl hw;cases hR:valL d (sfx s i) i with
 | error q=>
   obtain⟨e,a⟩:=q;rw[hR]at hc;clear hR hv;go_enter Tryz.func149,Tryz.ntmps149;go_wp2_with fail
   refine hc.mono ?_;rintro r w1 ⟨h0,rfl,h1⟩;have H1:Hid _:=And.intro h0 h1;clear hc h0 h1;go_wp2;exact⟨rfl,H1.out.1,rfl,H1.out.2⟩
 | ok q=>
   obtain⟨t,n⟩:=q;rw[hR]at hc;clear hR hv;go_enter Tryz.func149,Tryz.ntmps149;go_wp2_with fail
   refine hc.mono ?_;rintro r wc ⟨rfl,v6,kv7,hN,hC⟩;have HC:Hid (Chg bp (own vL kvs) w (own v6 kv7) wc):=hC;clear hc hC;generalize hL:ns++flat ns.length key t=L at hN;have hLl:L.length=ns.length+t.size:=by rw[←hL,List.length_append,flat_length]
   have hsz:=size_pos t;have HL':Hid (ns++flat ns.length key t=L):=hL;have hu2:u<L.length:=by omega
   obtain⟨ad6,cap6,rfl⟩:=hN.nk.shape;obtain⟨g6,rfl⟩:∃g6,ad6=some ⟨g6,0,none⟩:=by
    rcases hN.nk.2.1.2 with⟨e,h0⟩|⟨g,c,cu,e,_⟩
    ·omega
    ·injection e with e _ _;exact⟨g,e⟩
   obtain⟨c0,c1,c2,c3,cf⟩:=hN.cd.cell;obtain⟨q1,q2,q3,q4⟩:=hN.nk;obtain⟨m,hn⟩:∃m,L[u]?=some m:=⟨_,List.getElem?_eq_getElem hu2⟩;obtain⟨kv,hkv⟩:∃kv,kv7[u]?=some kv:=⟨_,List.getElem?_eq_getElem (by omega)⟩;have hrow:=q3 u m kv hn hkv;obtain⟨adk,capk,hkf⟩:∃adk capk,kv=.slice adk m.kids.length capk:=by
    rcases hrow.2 with⟨a,b⟩|⟨g,c,cu,a,_⟩
    ·exact⟨none,0,by rw[a,b]⟩
    ·exact⟨_,_,a⟩
   subst hkf;have hcu:wc.cell? ⟨g6,u*6+4,none⟩=some (.slice adk m.kids.length capk):=(hN.nk.at (g:=g6) rfl hn hkv (by omega) rfl).1;have hfu:wc.frozen? ⟨g6,u*6+4,none⟩=false:=(hN.nk.at (g:=g6) rfl hn hkv (j:=4) (by omega) rfl).2;have hgl:g6<wc.heap.size∧bp+1≤g6:=by have:=ownBlock_lt q2 (g:=g6) rfl;exact⟨this.2.1,this.1⟩
   have HQ1:Hid _:=q1;have HQ2:Hid (wc.ownsRow (bp+1) 42 6 (.slice (some ⟨g6,0,none⟩) L.length cap6) L.length (rowN L kv7)):=q2;have HQ3:Hid _:=q3;have HQ4:Hid _:=q4;have HN:Hid _:=hn;have HKV:Hid (kv7[u]?=some (.slice adk m.kids.length capk)):=hkv;have HRO:Hid (wc.ownsRow (bp+1) 3 1 (.slice adk m.kids.length capk) m.kids.length (m.kids.map iV)):=hrow;have HRD:Hid (CD bp s (i+n) (.slice (some ⟨g6,0,none⟩) L.length cap6) dp wc):=hN.cd;have HGL:Hid (g6<wc.heap.size∧bp+1≤g6):=hgl;have hu1:(u:Int)<(L.length:Int):=by omega
   have hu0:decide ((0:Int)≤(u:Int))=true:=by simp
   have HL:Hid (m.kids.length+1≤1000000000):=by
    show m.kids.length+1≤1000000000
    have hmem:m∈ns:=by
     have hn2:=hn;rw[←hL,List.getElem?_append_left hu]at hn2;exact List.mem_of_getElem? hn2
    have:=hw m hmem;omega
   clear q1 q2 q3 q4 hn hkv hrow hu2 hw h hL hLl hsz;obtain⟨i1,hi1,hy0,hy1,hy2⟩:=info_parts intinfo;have HI1:Hid _:=hi1;have hltb:bp<wc.heap.size:=HRD.out.lt;have hal2:∀o:Obj,(wc.alloc o).cell? ⟨bp,2,none⟩=some (.slice (some ⟨g6,0,none⟩) L.length cap6):=fun o=>(World.cell?_alloc_lt _ _ _ hltb).trans c2
   have hal3:∀o:Obj,(wc.alloc o).cell? ⟨g6,u*6+4,none⟩=some (.slice adk m.kids.length capk):=fun o=>(World.cell?_alloc_lt _ _ _ hgl.1).trans hcu
   have HOw:Hid (∀o,((wc.alloc o).drew).ownsRow (bp+1) 3 1 (.slice adk m.kids.length capk) m.kids.length (m.kids.map iV)):=fun o=>HRO.out.alloc o
   have HBs:Hid (∀o,bp+1≤((wc.alloc o).drew).heap.size):=fun o=>by show _≤(wc.alloc o).heap.size;simp;omega
   have HSs:Hid (∀o,((wc.alloc o).drew).heap.size=wc.heap.size+1):=fun o=>by show(wc.alloc o).heap.size=_;simp
   have HOne:Hid (∀j v,[iV ns.length][j]?=some v→((wc.alloc (.cells #[.int .i64 (ns.length:Int)] 3)).drew).cell? ((⟨wc.heap.size,0,none⟩:Addr).add j)=some v):=one_cell wc (iV ns.length) 3;have HNE:Hid (some bp≠(Value.slice adk m.kids.length capk).ownBlock∧some g6≠(Value.slice adk m.kids.length capk).ownBlock):=by
    refine⟨fun e=>?_,fun e=>?_⟩
    ·have:=(ownBlock_lt HRO.out e.symm).1;omega
    ·exact blocks_ne (by decide) HQ2.out HRO.out (g:=g6) rfl e.symm
   clear hi1 hgl hN;go_wp2_with fail
   go_region_law ((refine stepK rfl (.tmp 22) (.tmp 24) 40 rfl 3 i1 Tryz.underlying40 HI1.out hy0 hy1 hy2 (bp+1) _ m.kids.length (m.kids.map iV) ns.length ⟨wc.heap.size,0,none⟩ (wc.heap.size+1) rfl rfl HL.out (by exact HOw.out _) (by exact HBs.out _) (by exact HSs.out _) (by exact HOne.out) ?_;intro g8 cap8 w8 ho8 hg8 hgg8;have kA:=keepers hg8 hltb HNE.out.1;have kB:=keepers hg8 HGL.out.1 HNE.out.2;have s2:=(kA.2.1 2).trans c2;have t0:=(kB.2.1 (u*6+4)).trans hcu;have t1:=(kB.2.2 (u*6+4)).trans hfu;have HR8:Hid (CD bp s (i+n) (.slice (some ⟨g6,0,none⟩) L.length cap6) dp w8):=kA.1.trans HRD.out;clear kA kB;have W8:Hid (w8.ownsRow (bp+1) 3 1 (.slice (some ⟨g8,0,none⟩) (m.kids.length+1) cap8) (m.kids.length+1) (m.kids.map iV++[iV ns.length])):=ho8;have G8:Hid (((wc.alloc (.cells #[.int .i64 (ns.length:Int)] 3)).drew).grownBy w8 (Value.slice adk m.kids.length capk).ownBlock):=hg8;have GG8:Hid ((Value.slice adk m.kids.length capk).ownBlock=some g8∨g8=wc.heap.size+1):=hgg8;clear ho8 hg8 hgg8))
   all_goals
    have hk9:=NK.kid HQ1.out HQ2.out HQ3.out HQ4.out u ns.length g8 cap8 g6 m _ HN.out HKV.out W8.out (fun g' hg' hne=>(keepers G8.out hg' hne).1) (GG8.out.elim .inl fun e=>.inr (by omega)) rfl (by decide);have eL:L.modify u (fun n=>{n with kids:=n.kids++[ns.length]})=addKid ns (some u) ns.length++flat ns.length key t:=by rw[←HL'.out];exact modify_appL ns _ u _ hu
    rw[eL]at hk9;have hcL:=(keepers G8.out HGL.out.1 HNE.out.2).1;obtain⟨_,_,cur,hcc⟩:=ownBlock_lt HQ2.out (g:=g6) rfl;have hw9:=setCell_eq_setRow w8 g6 (u*6+4) cur _ _ (.slice (some ⟨g8,0,none⟩) (m.kids.length+1) cap8) (hcL.trans hcc);have h9:CD bp s (i+n) (.slice (some ⟨g6,0,none⟩) L.length cap6) dp (w8.setCell ⟨g6,u*6+4,none⟩ (.slice (some ⟨g8,0,none⟩) (m.kids.length+1) cap8)):=by
     unfold CD;rw[hw9];exact(setRow_other w8 g6 bp _ (by have:=HGL.out;omega)).trans HR8.out
    have hb9:Chg bp (own (.slice (some ⟨g6,0,none⟩) L.length cap6) kv7) wc (own (.slice (some ⟨g6,0,none⟩) L.length cap6) (kv7.set u (.slice (some ⟨g8,0,none⟩) (m.kids.length+1) cap8))) (w8.setCell ⟨g6,u*6+4,none⟩ (.slice (some ⟨g8,0,none⟩) (m.kids.length+1) cap8)):=by
     have hmk:(Value.slice adk m.kids.length capk)∈kv7:=List.mem_of_getElem? HKV.out;have a2:(wc.alloc (.cells #[.int .i64 (ns.length:Int)] 3)).heap.size≤w8.heap.size:=G8.out.size;rw[hw9];refine⟨G8.out.os,G8.out.tape,G8.out.output,by simp[World.setRow]at a2 ⊢;omega,fun k hk hb hO=>?_,fun k hk=>?_⟩
     ·rw[setRow_other w8 g6 k _ (fun e=>hO (.inl (by rw[e];rfl)))]
      exact(keepers G8.out hk (fun e=>hO (.inr ⟨_,hmk,e.symm⟩))).1
     ·rcases hk with hk|⟨kv,hm,hk⟩
      ·exact .inl (.inl hk)
      ·rcases List.mem_or_eq_of_mem_set hm with hm|rfl
       ·exact .inl (.inr ⟨kv,hm,hk⟩)
       ·simp[Value.ownBlock]at hk
        subst hk;rcases GG8.out with e|e
        ·exact .inl (.inr ⟨_,hmk,e⟩)
        ·exact .inr (by omega)
    have H9:Hid _:=And.intro h9 (And.intro hk9 (HC.out.trans hb9));clear eL hk9 hcL hcc hw9 h9 hb9 s2 t0 t1 W8 G8 GG8 HR8 HOw HBs HSs HOne HL HNE hal2 hal3 hcu hfu c0 c1 c2 c3 cf;generalize w8.setCell ⟨g6,u*6+4,none⟩ (.slice (some ⟨g8,0,none⟩) (m.kids.length+1) cap8)=w9 at H9;go_wp2;go_end0
    exact⟨rfl,_,_,⟨H9.out.1,H9.out.2.1⟩,H9.out.2.2⟩
end
theorem drop_lt{s:ByteArray}{p c:Nat}{r:List UInt8}{x:UInt8}(h:(sfx s p).drop c=x::r):p+c<s.size:=by
 rw[sfx_drop]at h;by_cases hx:p+c<s.size
 ·exact hx
 ·rw[sfx_nil s _ (by omega)]at h;cases h
theorem nb_leS(s:ByteArray)(p:Nat)(h:p≤s.size):p+nb (sfx s p)≤s.size:=by have:=nb_le (sfx s p);rw[sfx_length]at this;omega
theorem strF_len(s:ByteArray):∀(f p:Nat) (t:List UInt8) (n:Nat),strF f (sfx s p)=.ok (t,n)→p+n≤s.size:=by
 intro f;induction f with
 | zero=>intro p t n h;simp[strF]at h
 | succ f ih=>
   intro p t n h;by_cases hp:p<s.size
   ·have shift_len:∀(a:List UInt8) (k:Nat) (X:Except Nat (List UInt8×Nat)),(∀t n,X=.ok (t,n)→p+k+n≤s.size)→shiftS a k X=.ok (t,n)→p+n≤s.size:=by
     intro a k X hX hx;cases X with
     | error o=>simp[shiftS]at hx
     | ok q=>obtain⟨t',n'⟩:=q;have:=hX t' n' rfl;simp[shiftS]at hx;omega
    have hc:=sfx_cons s p hp;rw[hc,strF]at h;rw[←hc]at h;split at h
    ·injection h with h;injection h with h1 h2;omega
    ·split at h
     ·cases h
     ·split at h
      ·rw[escL_R]at h
       cases hE:escR (sfx s p)with
       | error o=>rw[hE]at h;cases h
       | ok q=>
         obtain⟨q,k⟩:=q;rw[hE]at h;refine shift_len (wr8 q) k (strF f ((sfx s p).drop k)) (fun t n hh=>?_) h;rw[sfx_drop]at hh;exact ih _ t n hh
      ·split at h
       ·cases h
       ·refine shift_len _ _ _ (fun t n hh=>?_) h
        rw[sfx_drop]at hh;exact ih _ t n hh
   ·rw[sfx_nil s p (by omega)]at h;simp[strF]at h
theorem quotL_len{s:ByteArray}{p:Nat}{t:List UInt8}{n:Nat}(h:quotL (sfx s p)=.ok (t,n)):p+n≤s.size:=by
 by_cases hp:p<s.size
 ·rw[sfx_cons s p hp,quotL]at h
  split at h
  ·unfold strL at h
   cases hs:strF ((sfx s (p+1)).length+1) (sfx s (p+1))with
   | error o=>rw[hs]at h;cases h
   | ok q=>
     obtain⟨t',n'⟩:=q;rw[hs]at h;have:=strF_len s _ _ _ _ hs;injection h with h;injection h with h1 h2;omega
  ·cases h
 ·rw[sfx_nil s p (by omega)]at h;cases h
theorem intL_len{s:ByteArray}{p:Nat}{m:Int}{n:Nat}(h:intL (sfx s p)=.ok (m,n)):p+n≤s.size:=by
 by_cases hp:p<s.size
 ·have hn:=nd_le (sfx s p)
  have hn1:=nd_le (sfx s (p+1));rw[sfx_length]at hn hn1;by_cases hm:(sfx s p).head?=some 45
  ·have hc:sfx s p=45::sfx s (p+1):=by
    rw[sfx_cons s p hp]at hm ⊢;simp at hm;rw[hm]
   rw[intL_minus hc]at h;split at h
   ·cases h
   ·split at h
    ·cases h
    ·injection h with h;injection h with h1 h2;omega
  ·rw[intL_plain hm]at h
   split at h
   ·cases h
   ·split at h
    ·cases h
    ·injection h with h;injection h with h1 h2;omega
 ·rw[sfx_nil s p (by omega)]at h;cases h
theorem wordL_len{s:ByteArray}{p i:Nat}{t:JT}{n:Nat}(h:wordL (sfx s p) i=.ok (t,n))(hp:p≤s.size):p+n≤s.size:=by
 have key:∀(w:List UInt8),(sfx s p).take (nl (sfx s p))=w→p+w.length≤s.size:=by
  intro w hw;have:=congrArg List.length hw;rw[List.length_take,sfx_length]at this;omega
 unfold wordL at h;dsimp only at h;split at h
 ·next hw=>have:=key _ hw;injection h with h;injection h with h1 h2;simp at this;omega
 ·split at h
  ·next hw=>have:=key _ hw;injection h with h;injection h with h1 h2;simp at this;omega
  ·split at h
   ·next hw=>have:=key _ hw;injection h with h;injection h with h1 h2;simp at this;omega
   ·cases h
theorem arrF_len(s:ByteArray)(v:List UInt8→Nat→JR JT)(hv:∀p i t n,v (sfx s p) i=.ok (t,n)→p≤s.size→p+n≤s.size):∀(f p i:Nat) (ts:List JT) (k:Nat),arrF v f (sfx s p) i=.ok (ts,k)→p≤s.size→p+k≤s.size:=by
 intro f;induction f with
 | zero=>intro p i ts k h;simp[arrF]at h
 | succ f ih=>
   intro p i ts k h hp;rw[arrF]at h;dsimp only at h;split at h
   ·cases h
   ·rename_i t n hvt
    split at h
    ·next c r hd=>
     have hl:=drop_lt hd;split at h
     ·split at h
      ·cases h
      ·rename_i ts' k' hr
       rw[sfx_drop]at hr;have:=ih _ _ _ _ hr (by omega);injection h with h;injection h with h1 h2;omega
     ·split at h
      ·injection h with h;injection h with h1 h2;omega
      ·cases h
    ·cases h
theorem objF_len(s:ByteArray)(v:List UInt8→Nat→JR JT):∀(f:Nat) (ks:List (List UInt8)) (p i:Nat) (ms:List (List UInt8×JT)) (k:Nat),objF v f ks (sfx s p) i=.ok (ms,k)→p≤s.size→p+k≤s.size:=by
 intro f;induction f with
 | zero=>intro ks p i ts k h;simp[objF]at h
 | succ f ih=>
   intro ks p i ms k h hp;rw[objF]at h;dsimp only at h;split at h
   ·cases h
   ·split at h
    ·cases h
    ·split at h
     ·split at h
      ·split at h
       ·cases h
       ·split at h
        ·next c r hd=>
         have hl:=drop_lt hd;split at h
         ·split at h
          ·cases h
          ·rename_i ms' k' hr
           rw[sfx_drop]at hr;have:=ih _ _ _ _ _ hr (by omega);injection h with h;injection h with h1 h2;omega
         ·split at h
          ·injection h with h;injection h with h1 h2;omega
          ·cases h
        ·cases h
      ·cases h
     ·cases h
theorem head_drop{s:ByteArray}{p a:Nat}{c:UInt8}(h:((sfx s p).drop a).head?=some c):p+a<s.size:=by rw[sfx_drop]at h;exact head_lt h
theorem valL_len(s:ByteArray):∀(d p i:Nat) (t:JT) (n:Nat),valL d (sfx s p) i=.ok (t,n)→p≤s.size→p+n≤s.size:=by
 intro d;induction d with
 | zero=>
   intro p i t n h hp;by_cases hps:p<s.size
   ·have hc:=sfx_cons s p hps
    rw[hc,valL_cons,←hc]at h;split at h
    ·split at h
     ·cases h
     ·rename_i hq;have:=quotL_len hq;injection h with h;injection h with h1 h2;omega
    ·split at h
     ·split at h
      ·cases h
      ·rename_i hq;have:=intL_len hq;injection h with h;injection h with h1 h2;omega
     ·split at h
      ·exact wordL_len h hp
      ·split at h
       ·cases h
       ·cases h
   ·rw[sfx_nil s p (by omega),valL_nil]at h;cases h
 | succ d ih=>
   intro p i t n h hp;by_cases hps:p<s.size
   ·have hc:=sfx_cons s p hps
    rw[hc,valL_cons,←hc]at h;split at h
    ·split at h
     ·cases h
     ·rename_i hq;have:=quotL_len hq;injection h with h;injection h with h1 h2;omega
    ·split at h
     ·split at h
      ·cases h
      ·rename_i hq;have:=intL_len hq;injection h with h;injection h with h1 h2;omega
     ·split at h
      ·exact wordL_len h hp
      ·split at h
       ·dsimp only at h
        split at h
        ·unfold arrL at h
         dsimp only at h;split at h
         ·next hh=>have:=head_drop hh;injection h with h;injection h with h1 h2;omega
         ·split at h
          ·cases h
          ·rename_i hr
           rw[sfx_drop]at hr;have hb:p+(1+nb (sfx s (p+1)))≤s.size:=by have:=nb_leS s (p+1) (by omega);omega
           rw[sfx_drop]at hr;have:=arrF_len s _ ih _ _ _ _ _ hr hb;injection h with h;injection h with h1 h2;rw[sfx_drop]at h2;omega
        ·unfold objL at h
         dsimp only at h;split at h
         ·next hh=>have:=head_drop hh;injection h with h;injection h with h1 h2;omega
         ·split at h
          ·cases h
          ·rename_i hr
           rw[sfx_drop]at hr;have hb:p+(1+nb (sfx s (p+1)))≤s.size:=by have:=nb_leS s (p+1) (by omega);omega
           rw[sfx_drop]at hr;have:=objF_len s _ _ _ _ _ _ _ hr hb;injection h with h;injection h with h1 h2;rw[sfx_drop]at h2;omega
       ·cases h
   ·rw[sfx_nil s p (by omega),valL_nil]at h;cases h
structure BoxA (b0 b1 bp u:Nat) (O:Nat→Prop) (w:World):Prop where
 h0:w.heap[b0]?=some (.cells #[.pointer (some ⟨bp,0,none⟩)] 64 (0,0))
 h1:w.heap[b1]?=some (.cells #[.int .i64 (u:Int)] 3 (0,0))
 n0:b0≠bp∧¬O b0
 n1:b1≠bp∧¬O b1
theorem BoxA.chg{b0 b1 bp u:Nat}{O O':Nat→Prop}{w w':World}(h:BoxA b0 b1 bp u O w)(hc:Chg bp O w O' w'):BoxA b0 b1 bp u O' w':=by
 have l0:b0<w.heap.size:=(Array.getElem?_eq_some_iff.1 h.h0).1;have l1:b1<w.heap.size:=(Array.getElem?_eq_some_iff.1 h.h1).1;refine⟨(hc.block b0 l0 h.n0.1 h.n0.2).trans h.h0,(hc.block b1 l1 h.n1.1 h.n1.2).trans h.h1,⟨h.n0.1,fun h'=>?_⟩,⟨h.n1.1,fun h'=>?_⟩⟩
 ·rcases hc.own b0 h' with h1|h1
  ·exact h.n0.2 h1
  ·omega
 ·rcases hc.own b1 h' with h2|h2
  ·exact h.n1.2 h2
  ·omega
section
variable (bp:Nat) (s:ByteArray) (i:Nat) (ns:List Nd) (u:Nat) (dp:Nat) (vL:Value) (kvs:List Value) (w:World) (b0 b1:Nat)
theorem carr1(d:Nat)(hv:CVal d dp)(hs:s.size≤65536)(hbp:9≤bp)(h:CN bp s i ns dp vL kvs w)(hG:GV w)(hi:i≤s.size)(hl:ns.length≤i)(hw:WFk ns)(hu:u<ns.length)(hB:BoxA b0 b1 bp u (own vL kvs) w):Calls Tryz.prog 150 #[.pointer (some ⟨b0,0,none⟩),.pointer (some ⟨b1,0,none⟩)] w fun r w'=>KQ bp s i ns u [] dp (own vL kvs) w r w' (valL d (sfx s i) i):=by
 have hk:=ckid bp s i ns u [] dp vL kvs w d hv hs hbp h hG hi hl hw hu;have c0:w.cell? ⟨b0,0,none⟩=some (.pointer (some ⟨bp,0,none⟩)):=by rw[cell_of_row w b0 0 _ _ _ hB.h0];rfl
 have c1:w.cell? ⟨b1,0,none⟩=some (.int .i64 (u:Int)):=by rw[cell_of_row w b1 0 _ _ _ hB.h1];rfl
 cases hR:valL d (sfx s i) i with
 | error q=>
   obtain⟨e,a⟩:=q;rw[hR]at hk;clear hR hv;go_enter Tryz.func150,Tryz.ntmps150;go_wp2_with fail
   refine hk.mono ?_;rintro r w1 ⟨h0,rfl,h1⟩;have H1:Hid _:=And.intro h0 h1;clear hk h0 h1;go_wp2;exact⟨rfl,H1.out.1,rfl,H1.out.2⟩
 | ok q=>
   obtain⟨t,n⟩:=q;rw[hR]at hk;clear hR hv;go_enter Tryz.func150,Tryz.ntmps150;go_wp2_with fail
   refine hk.mono ?_;rintro r w1 ⟨rfl,h1⟩;have H1:Hid _:=h1;clear hk h1;go_wp2;go_end0
   exact⟨rfl,H1.out⟩
def LA(d:Nat)(w0:World)(O0:Nat→Prop)(i0:Nat)(key:List UInt8)(ms:List Nd)(wr:World):Prop:=
 ∃q p ts f vR kR,i0<q∧q+nb (sfx s q)=p∧p≤s.size∧(sfx s q).length<f∧CN bp s p (arrN ms none key i0 ts) dp vR kR wr∧(arrN ms none key i0 ts).length≤q∧WFk (arrN ms none key i0 ts)∧arrL (valL d) (sfx s i0) i0=finA ts i0 q (arrF (valL d) f (sfx s q) q)∧GV wr∧Chg bp O0 w0 (own vR kR) wr∧BoxA b0 b1 bp ms.length (own vR kR) wr
def arrFv:Value:=.func (.func 150) #[] #[.pointer (some ⟨b0,0,none⟩),.pointer (some ⟨b1,0,none⟩)]
def IQ(O:Nat→Prop)(w0:World)(i0:Nat)(key:List UInt8)(ms:List Nd)(r:Ending)(w':World):JR JT→Prop
 | .ok (t,n)=>r=.returned (.tuple #[])∧∃vL' kvs',CN bp s (i0+n) (ms++flat ms.length key t) dp vL' kvs' w'∧Chg bp O w0 (own vL' kvs') w'
 | .error (e,a)=>0<e∧r=.panicked (flt e a)∧Chg bp O w0 (fun _=>False) w'
theorem citemsA(d:Nat)(hv:CVal d dp)(hs:s.size≤65536)(hbp:9≤bp)(w0:World)(O0:Nat→Prop)(i0:Nat)(key:List UInt8)(ms:List Nd)(hLA:LA bp s dp b0 b1 d w0 O0 i0 key ms w):Calls Tryz.prog 181 #[.pointer (some ⟨bp,0,none⟩),.int .u8 93,arrFv b0 b1] w fun r w'=>IQ bp s dp O0 w0 i0 key ms r w' (arrL (valL d) (sfx s i0) i0):=by
 unfold arrFv;have HLA:Hid _:=hLA;clear hLA;go_enter Tryz.func181,Tryz.ntmps181;go_wp2_with fail
 go_loopw [6] (fun _ wr=>LA bp s dp b0 b1 d w0 O0 i0 key ms wr) (fun _ wr=>s.size+1-posOf (wr.cell? ⟨bp,1,none⟩))
 case atStart=>exact HLA.out
 case round=>
  clear HLA;obtain⟨q,p,ts,f,vR,kR,hiq,hp,hps,hf,hN,hlen,hwf,hfin,hGr,hC,hB⟩:=hrel;have HM:Hid (posOf (wr.cell? ⟨bp,1,none⟩)=p):=cpos_rd hN.cd;have hgt:ms.length<(arrN ms none key i0 ts).length:=by rw[arrN_length];omega
  have hca:=carr1 bp s p (arrN ms none key i0 ts) ms.length dp vR kR wr b0 b1 d hv hs hbp hN hGr hps (by omega) hwf hgt hB;obtain⟨f,rfl⟩:∃g,f=g+1:=⟨f-1,by omega⟩;have HP:Hid (q+nb (sfx s q)=p):=hp;have HF:Hid (arrL (valL d) (sfx s i0) i0=finA ts i0 q (arrF (valL d) (f+1) (sfx s q) q)):=hfin;have HC:Hid (Chg bp O0 w0 (own vR kR) wr):=hC;have HB:Hid _:=hB;have HX:Hid (i0<q∧q≤p∧(arrN ms none key i0 ts).length≤q∧WFk (arrN ms none key i0 ts)∧(sfx s q).length<f+1):=⟨hiq,by omega,hlen,hwf,hf⟩;have HG:Hid (GV wr∧CN bp s p (arrN ms none key i0 ts) dp vR kR wr):=⟨hGr,hN⟩;have hlt:=hN.cd.lt;clear hfin hC hB hiq hlen hwf hf hp hGr hN hgt hv;cases hR:valL d (sfx s p) p with
  | error x=>
    obtain⟨e,a⟩:=x;rw[hR]at hca;have HR:Hid (arrL (valL d) (sfx s i0) i0=.error (e,a)):=by
     show arrL (valL d) (sfx s i0) i0=.error (e,a)
     rw[HF.out,arrF_er (valL d) s q f (e,a) (by rw[HP.out];exact hR)];rfl
    clear hR;go_wp2_with fail
    refine hca.mono ?_;rintro r w1 ⟨h0,rfl,h1⟩;have H1:Hid (0<e∧Chg bp O0 w0 (fun _=>False) w1):=⟨h0,HC.out.trans h1⟩;clear hca h0 h1;go_wp2;refine⟨rfl,?_⟩;rw[HR.out];exact⟨H1.out.1,rfl,H1.out.2⟩
  | ok x=>
    obtain⟨t,n⟩:=x;rw[hR]at hca;have HV:Hid (valL d (sfx s p) p=.ok (t,n)):=hR;clear hR;go_wp2_with fail
    refine hca.mono ?_;rintro r w1 ⟨rfl,v1,k1,hN1,hC1⟩;have hBB:BoxA b0 b1 bp ms.length (own v1 k1) w1:=HB.out.chg hC1;have hG1:GV w1:=HG.out.1.chg hC1 hbp hlt HG.out.2.above;have hC2:=HC.out.trans hC1;rw[arrN_add]at hN1;have hpn:p+n≤s.size:=valL_len s d p p t n HV.out hps;have hsz:t.size≤n:=valL_size d _ _ _ _ HV.out;have HN1:Hid (CN bp s (p+n) (arrN ms none key i0 (ts++[t])) dp v1 k1 w1):=hN1;have H1:Hid (BoxA b0 b1 bp ms.length (own v1 k1) w1∧GV w1∧Chg bp O0 w0 (own v1 k1) w1):=⟨hBB,hG1,hC2⟩;have hbl:=cblanks bp s (p+n) v1 dp w1 (by omega) hN1.cd hpn;have hb3:=nb_leS s (p+n) hpn;generalize hp3:p+n+nb (sfx s (p+n))=p3 at hbl hb3;have HP3:Hid (p+n+nb (sfx s (p+n))=p3):=hp3;have HSZ:Hid (t.size≤n∧p+n≤p3):=⟨hsz,by omega⟩;clear hBB hG1 hC2 hN1 hca hC1 hp3 hsz hpn;go_wp2_with fail
    refine hbl.mono ?_;rintro r w2 ⟨rfl,h2,o2⟩;have HN2:Hid (CN bp s p3 (arrN ms none key i0 (ts++[t])) dp v1 k1 w2):=HN1.out.onl h2 o2;have H2:Hid (BoxA b0 b1 bp ms.length (own v1 k1) w2∧GV w2∧Chg bp O0 w0 (own v1 k1) w2):=⟨H1.out.1.chg (o2.chg _),H1.out.2.1.onl o2 hbp HN1.out.cd.lt,H1.out.2.2.trans (o2.chg _)⟩;clear hbl o2 HN1 H1;by_cases h93:(sfx s p3).head?=some 93
    ·have ht:=ctake_yes bp s p3 v1 dp 93 w2 (by omega) h2 h93
     rw[show((93:UInt8).toNat:Int)=93 from rfl]at ht;have HR:Hid (arrL (valL d) (sfx s i0) i0=.ok (.arr (ts++[t]) i0,p3-i0+1)):=by
      show arrL (valL d) (sfx s i0) i0=_
      have hx:=HX.out;have hz:=HSZ.out;rw[HF.out,arrF_last (valL d) s q f p p3 n t HP.out HV.out HP3.out (by rw[h93];decide),finA_last ts t i0 q p3 (by omega) (by omega),if_pos h93]
     clear h93;go_wp2_with fail
     refine ht.mono ?_;rintro r w3 ⟨rfl,h3,o3⟩;have HN3:Hid (CN bp s (p3+1) (arrN ms none key i0 (ts++[t])) dp v1 k1 w3):=HN2.out.onl h3 o3;have H3:Hid (Chg bp O0 w0 (own v1 k1) w3):=H2.out.2.2.trans (o3.chg _);clear ht o3;go_wp2;refine bodyPost_ret (results_none rfl _ _ _) rfl ?_;rw[HR.out];refine⟨rfl,v1,k1,?_,H3.out⟩;rw[show i0+(p3-i0+1)=p3+1 by have:=HX.out;have:=HSZ.out;omega];exact HN3.out
    ·have ht:=ctake_no bp s p3 v1 dp 93 w2 h2 hb3 (by decide) h93
     rw[show((93:UInt8).toNat:Int)=93 from rfl]at ht;go_wp2_with fail
     refine ht.mono ?_;rintro r w3 ⟨rfl,h3,o3⟩;have HN3:Hid (CN bp s p3 (arrN ms none key i0 (ts++[t])) dp v1 k1 w3):=HN2.out.onl h3 o3;have H3:Hid (BoxA b0 b1 bp ms.length (own v1 k1) w3∧GV w3∧Chg bp O0 w0 (own v1 k1) w3):=⟨H2.out.1.chg (o3.chg _),H2.out.2.1.onl o3 hbp h2.lt,H2.out.2.2.trans (o3.chg _)⟩;clear ht o3 H2 HN2 h2;by_cases h44:(sfx s p3).head?=some 44
     ·have hn:=cneed_yes bp s p3 v1 dp 44 w3 (by omega) h3 h44
      rw[show((44:UInt8).toNat:Int)=44 from rfl]at hn;have h44l:=head_lt h44;have hbl:=fun w' h'=>cblanks bp s (p3+1) v1 dp w' (by omega) h' (by omega)
      have HR:Hid (arrL (valL d) (sfx s i0) i0=finA (ts++[t]) i0 (p3+1) (arrF (valL d) f (sfx s (p3+1)) (p3+1))):=by
       show arrL (valL d) (sfx s i0) i0=_
       have hx:=HX.out;have hz:=HSZ.out;rw[HF.out,arrF_more (valL d) s q f p p3 n t HP.out HV.out HP3.out h44,finA_more ts t i0 q (p3+1) (by omega) (by omega)]
      have hp4:=nb_leS s (p3+1) (by omega);clear h93 h44;go_wp2_with fail
      refine hn.mono ?_;rintro r w4 ⟨rfl,h4,o4⟩;have HN4:Hid (CN bp s (p3+1) (arrN ms none key i0 (ts++[t])) dp v1 k1 w4):=HN3.out.onl h4 o4;have H4:Hid (BoxA b0 b1 bp ms.length (own v1 k1) w4∧GV w4∧Chg bp O0 w0 (own v1 k1) w4):=⟨H3.out.1.chg (o4.chg _),H3.out.2.1.onl o4 hbp h3.lt,H3.out.2.2.trans (o4.chg _)⟩;clear hn o4 H3 HN3 h3;go_wp2_with fail
      refine(hbl w4 h4).mono ?_;rintro r w5 ⟨rfl,h5,o5⟩;have HN5:Hid (CN bp s (p3+1+nb (sfx s (p3+1))) (arrN ms none key i0 (ts++[t])) dp v1 k1 w5):=HN4.out.onl h5 o5;have H5:Hid (BoxA b0 b1 bp ms.length (own v1 k1) w5∧GV w5∧Chg bp O0 w0 (own v1 k1) w5):=⟨H4.out.1.chg (o5.chg _),H4.out.2.1.onl o5 hbp h4.lt,H4.out.2.2.trans (o5.chg _)⟩;clear hbl o5 H4 HN4 h4;go_wp2;have hx:=HX.out;have hz:=HSZ.out;refine⟨⟨p3+1,_,ts++[t],f,v1,k1,by omega,rfl,hp4,?_,HN5.out,?_,?_,HR.out,H5.out.2.1,H5.out.2.2,H5.out.1⟩,?_⟩
      ·have:=hx.2.2.2.2;rw[sfx_length]at this ⊢;omega
      ·have e1:=hx.2.2.1
       rw[arrN_length]at e1 ⊢;rw[sizeL_append];omega
      ·rw[←arrN_add];exact flat_wf hx.2.2.2.1 (some ms.length) [] t
      ·rw[HM.out,cpos_rd h5];omega
     ·have hn:=cneed_no bp s p3 v1 dp 44 w3 h3 hb3 (by decide) h44
      rw[show((44:UInt8).toNat:Int)=44 from rfl]at hn;have HR:Hid (arrL (valL d) (sfx s i0) i0=.error (2,p3)):=by
       show arrL (valL d) (sfx s i0) i0=_
       have hx:=HX.out;have hz:=HSZ.out;rw[HF.out,arrF_last (valL d) s q f p p3 n t HP.out HV.out HP3.out h44,finA_last ts t i0 q p3 (by omega) (by omega),if_neg h93]
      clear h93 h44;go_wp2_with fail
      refine hn.mono ?_;rintro r w4 ⟨rfl,h4,o4⟩;have H4:Hid (Chg bp O0 w0 (own v1 k1) w4):=H3.out.2.2.trans (o4.chg _);clear hn o4;go_wp2;refine⟨rfl,?_⟩;rw[HR.out];exact⟨by omega,rfl,H4.out.drop⟩
end
theorem nb_skip(l:List UInt8):nb (l.drop (nb l))=0:=by
 induction l with
 | nil=>rfl
 | cons c r ih=>
   rw[nb];split
   ·rw[List.drop_succ_cons];exact ih
   ·next h=>rw[List.drop_zero,nb,if_neg h]
theorem nb_skipS(s:ByteArray)(i p:Nat)(h:i+nb (sfx s i)=p):nb (sfx s p)=0:=by
 rw[←h,←sfx_drop];exact nb_skip _
section
variable (bp:Nat) (s:ByteArray) (i:Nat) (key:List UInt8) (ms:List Nd) (dp:Nat) (vL:Value) (kvs:List Value) (w:World) (b0 b1:Nat)
theorem deep32{dp:Nat}(h:dp=32):((dp:Int)==32)=true:=by rw[h];rfl
theorem clistA_deep(h:CN bp s i (arrN ms none key i []) dp vL kvs w)(hd:dp=32):Calls Tryz.prog 145 #[.pointer (some ⟨bp,0,none⟩),.int .u8 93,arrFv b0 b1] w fun r w'=>r=.panicked (flt 5 i)∧w'=w:=by
 unfold arrFv;obtain⟨c0,c1,c2,c3,cf⟩:=h.cd.cell;have hb:=deep32 hd;have hth:∀w',Calls Tryz.prog 121 #[.int .i64 5,.int .i64 (i:Int)] w' fun r w''=>r=.panicked (flt 5 i)∧w''=w':=fun w'=>cthrow 5 i w'
 clear hd;go_enter Tryz.func145,Tryz.ntmps145;go_wp2_with fail
 refine(hth w).mono ?_;rintro r w1 ⟨rfl,rfl⟩;clear hth;go_wp2;exact⟨rfl,rfl,rfl⟩
theorem clistA(d:Nat)(hv:CVal d (dp+1))(hs:s.size≤65536)(hbp:9≤bp)(h:CN bp s i (arrN ms none key i []) dp vL kvs w)(hG:GV w)(hi:i<s.size)(hl:ms.length≤i)(hw:WFk ms)(hd:dp<32)(hB:BoxA b0 b1 bp ms.length (own vL kvs) w):Calls Tryz.prog 145 #[.pointer (some ⟨bp,0,none⟩),.int .u8 93,arrFv b0 b1] w fun r w'=>IQ bp s dp (own vL kvs) w i key ms r w' (arrL (valL d) (sfx s i) i):=by
 have hlt:=h.cd.lt;obtain⟨c0,c1,c2,c3,cf⟩:=h.cd.cell;have f1:=cf 1;have f3:=cf 3;have hb:((dp:Int)==32)=false:=by rw[beq_eq_false_iff_ne];omega
 have hdb:(dp:Int)<32:=by omega
 have hib:(i:Int)≤65536:=by omega
 have hA:Hid (CD bp s (i+1) vL (dp+1) ((w.setCell ⟨bp,3,none⟩ (.int .i64 ((dp:Int)+1))).setCell ⟨bp,1,none⟩ (.int .i64 ((i:Int)+1)))∧Onl bp w ((w.setCell ⟨bp,3,none⟩ (.int .i64 ((dp:Int)+1))).setCell ⟨bp,1,none⟩ (.int .i64 ((i:Int)+1)))):=⟨(h.cd.setD (dp+1)).setI (i+1),Onl.setCell (Onl.setCell (onl_refl bp w) _ h.cd) _ (h.cd.setD (dp+1))⟩;have H0:Hid (CN bp s i (arrN ms none key i []) dp vL kvs w):=h;unfold arrFv;go_enter Tryz.func145,Tryz.ntmps145;go_wp2_with fail
 generalize (w.setCell ⟨bp,3,none⟩ (.int .i64 ((dp:Int)+1))).setCell ⟨bp,1,none⟩ (.int .i64 ((i:Int)+1))=w1 at hA;have h1:=hA.out.1;have O1:Hid (Onl bp w w1):=hA.out.2;clear hA c0 c1 c2 c3 cf f1 f3 h;have hbl:=cblanks bp s (i+1) vL (dp+1) w1 (by omega) h1 (by omega);have hb3:=nb_leS s (i+1) (by omega);have hz:=nb_skipS s (i+1) _ rfl;generalize hp:i+1+nb (sfx s (i+1))=p at hbl hb3 hz;have HP:Hid (i+1+nb (sfx s (i+1))=p):=hp;have HPL:Hid (i+1≤p):=by show i+1≤p;omega
 clear hp;refine hbl.mono ?_;rintro r w2 ⟨rfl,h2,o2⟩;have O2:Hid (Onl bp w w2):=O1.out.trans o2;clear hbl o2 O1 h1;by_cases h93:(sfx s p).head?=some 93
 ·have ht:=ctake_yes bp s p vL (dp+1) 93 w2 (by omega) h2 h93
  rw[show((93:UInt8).toNat:Int)=93 from rfl]at ht;have HR:Hid (arrL (valL d) (sfx s i) i=.ok (.arr [] i,p-i+1)):=by
   show arrL (valL d) (sfx s i) i=_
   rw[arrL_eq (valL d) s i p HP.out,if_pos h93]
  clear h93 hv;go_wp2_with fail
  refine ht.mono ?_;rintro r w3 ⟨rfl,h3,o3⟩;have O3:Hid (Onl bp w w3):=O2.out.trans o3;clear ht o3 O2;obtain⟨c0,c1,c2,c3,cf⟩:=h3.cell;have f3:=cf 3;go_wp2;go_end0
  rw[HR.out];have h4:CD bp s (p+1) vL dp (w3.setCell ⟨bp,3,none⟩ (.int .i64 (dp:Int))):=h3.setD dp;have o4:=Onl.setCell (k:=3) O3.out (.int .i64 (dp:Int)) h3;refine⟨rfl,vL,kvs,?_,o4.chg _⟩;rw[show i+(p-i+1)=p+1 by have:=HPL.out;omega];exact H0.out.onl h4 o4
 ·have ht:=ctake_no bp s p vL (dp+1) 93 w2 h2 hb3 (by decide) h93
  rw[show((93:UInt8).toNat:Int)=93 from rfl]at ht;have HR:Hid (arrL (valL d) (sfx s i) i=finA [] i p (arrF (valL d) ((sfx s i).length+1) (sfx s p) p)):=by
   show arrL (valL d) (sfx s i) i=_
   rw[arrL_eq (valL d) s i p HP.out,if_neg h93]
  clear h93;go_wp2_with fail
  refine ht.mono ?_;rintro r w3 ⟨rfl,h3,o3⟩;have O3:Hid (Onl bp w w3):=O2.out.trans o3;clear ht o3 O2;have hLA:LA bp s (dp+1) b0 b1 d w (own vL kvs) i key ms w3:=by
   have hp:=HPL.out;refine⟨p,p,[],(sfx s i).length+1,vL,kvs,by omega,by rw[hz];rfl,hb3,?_,⟨h3,H0.out.nk.onl O3.out (by omega)⟩,?_,?_,HR.out,hG.onl O3.out hbp hlt,O3.out.chg _,hB.chg (O3.out.chg _)⟩
   ·rw[sfx_length,sfx_length];omega
   ·rw[arrN_length];simp[sizeL];omega
   ·exact flat_wf hw none key (.arr [] i)
  have hit:=citemsA bp s (dp+1) w3 b0 b1 d hv hs hbp w (own vL kvs) i key ms hLA;unfold arrFv at hit;clear hLA hv;cases hQ:arrL (valL d) (sfx s i) i with
  | error q=>
    obtain⟨e,a⟩:=q;rw[hQ]at hit;have HQ:Hid _:=hQ;clear hQ HR;go_wp2_with fail
    refine hit.mono ?_;rintro r w4 ⟨h0,rfl,h4⟩;have H4:Hid _:=And.intro h0 h4;clear h0 h4 hit;go_wp2;refine⟨rfl,?_⟩;rw[HQ.out];exact⟨H4.out.1,rfl,H4.out.2⟩
  | ok q=>
    obtain⟨t,n⟩:=q;rw[hQ]at hit;have HQ:Hid _:=hQ;clear hQ HR;go_wp2_with fail
    refine hit.mono ?_;rintro r w4 ⟨rfl,v4,k4,hN4,hC4⟩;have H4:Hid _:=And.intro hN4 hC4;obtain⟨c0,c1,c2,c3,cf⟩:=hN4.cd.cell;have f3:=cf 3;clear hit hN4 hC4;go_wp2;go_end0
    have h5:CD bp s (i+n) v4 dp (w4.setCell ⟨bp,3,none⟩ (.int .i64 (dp:Int))):=H4.out.1.cd.setD dp;have o5:=Onl.setCell (k:=3) (onl_refl bp w4) (.int .i64 (dp:Int)) H4.out.1.cd;rw[HQ.out];exact⟨rfl,v4,k4,⟨h5,H4.out.1.nk.onl o5 (by omega)⟩,H4.out.2.trans (o5.chg _)⟩
end
def arrV:Nat→List UInt8→Nat→JR JT
 | 0,_,i=>.error (5,i)
 | d+1,l,i=>arrL (valL d) l i
def objV:Nat→List UInt8→Nat→JR JT
 | 0,_,i=>.error (5,i)
 | d+1,l,i=>objL (valL d) l i
theorem valL_arr(d:Nat)(l:List UInt8)(i:Nat)(h:l.head?=some 91):valL d l i=arrV d l i:=by
 match l with
 | []=>cases h
 | c::r=>
   have hc:c=91:=by simpa using h
   subst hc;rw[valL_cons,if_neg (by decide),if_neg (by decide),if_neg (by decide),if_pos (by decide)];cases d with
   | zero=>rfl
   | succ d=>simp only[if_true];rfl
theorem valL_obj(d:Nat)(l:List UInt8)(i:Nat)(h:l.head?=some 123):valL d l i=objV d l i:=by
 match l with
 | []=>cases h
 | c::r=>
   have hc:c=123:=by simpa using h
   subst hc;rw[valL_cons,if_neg (by decide),if_neg (by decide),if_neg (by decide),if_pos (by decide)];cases d with
   | zero=>rfl
   | succ d=>rfl
theorem CN.drew{bp:Nat}{s:ByteArray}{i:Nat}{ns:List Nd}{dp:Nat}{vL:Value}{kvs:List Value}{w:World}(h:CN bp s i ns dp vL kvs w):CN bp s i ns dp vL kvs w.drew:=⟨h.cd,h.nk.kept fun _ _=>rfl⟩
theorem Chg.drew{bp:Nat}{O O':Nat→Prop}{w w':World}(h:Chg bp O w O' w'):Chg bp O w O' w'.drew:=⟨h.os,h.tape,h.output,h.size,h.block,h.own⟩
theorem BoxA.drew{b0 b1 bp u:Nat}{O:Nat→Prop}{w:World}(h:BoxA b0 b1 bp u O w):BoxA b0 b1 bp u O w.drew:=⟨h.h0,h.h1,h.n0,h.n1⟩
theorem GV.drew{w:World}(h:GV w):GV w.drew:=h.kept fun _ _=>rfl
section
variable (bp:Nat) (s:ByteArray) (i:Nat) (ns:List Nd) (key:List UInt8) (dp g cap:Nat) (kvs:List Value) (w:World)
theorem carray(d:Nat)(hv:dp<32→∃d',d=d'+1∧CVal d' (dp+1))(hd:dp=32→d=0)(hdp:dp≤32)(hs:s.size≤65536)(hbp:9≤bp)(h:CN bp s i (ns++[blank key i]) dp (.slice (some ⟨g,0,none⟩) (ns.length+1) cap) kvs w)(hG:GV w)(hc:(sfx s i).head?=some 91)(hl:ns.length≤i)(hw:WFk ns):Calls Tryz.prog 119 #[.pointer (some ⟨bp,0,none⟩),.int .i64 (ns.length:Int)] w fun r w'=>
 VQ bp s i ns key dp (own (.slice (some ⟨g,0,none⟩) (ns.length+1) cap) kvs) w (.tuple #[]) r w' (valL d (sfx s i) i):=by
 have hmf:∀(fn:Fn) (first cap:Array Value) (w:World),(Instr.makeFunc fn first cap).run Tryz.prog w=.ok (.func fn first cap) w:=fun _ _ _ _=>rfl
 have hi:=head_lt hc;have hsi:s[i]=91:=by rw[sfx_cons s i hi]at hc;simpa using hc
 have hlt:=h.cd.lt;have hkl:kvs.length=ns.length+1:=by have:=h.nk.1;simpa using this
 obtain⟨kv,hkv⟩:∃kv,kvs[ns.length]?=some kv:=⟨_,List.getElem?_eq_getElem (by omega)⟩;obtain⟨_,hgl,cur,hgc⟩:=ownBlock_lt h.nk.2.1 (g:=g) rfl;generalize hW:(w.alloc (.cells #[.pointer (some ⟨bp,0,none⟩)] 64)).alloc (.cells #[.int .i64 (ns.length:Int)] 3)=W;have hsz:W.heap.size=w.heap.size+2:=by subst hW;simp
 have hNW:CN bp s i (ns++[blank key i]) dp (.slice (some ⟨g,0,none⟩) (ns.length+1) cap) kvs W:=by subst hW;exact(h.alloc _).alloc _
 have hCW:Chg bp (own (.slice (some ⟨g,0,none⟩) (ns.length+1) cap) kvs) w (own (.slice (some ⟨g,0,none⟩) (ns.length+1) cap) kvs) W:=by subst hW;exact(chg_alloc bp _ w _).trans (chg_alloc bp _ _ _)
 have hBW:BoxA w.heap.size (w.heap.size+1) bp ns.length (own (.slice (some ⟨g,0,none⟩) (ns.length+1) cap) kvs) W:=by
  refine⟨?_,?_,⟨by omega,fun h'=>?_⟩,⟨by omega,fun h'=>?_⟩⟩
  ·subst hW;rw[heap_alloc_old _ _ (by simp),heap_alloc_new]
  ·subst hW;have:=heap_alloc_new (w.alloc (.cells #[.pointer (some ⟨bp,0,none⟩)] 64)) (.cells #[.int .i64 (ns.length:Int)] 3);simpa using this
  ·have:=(h.nk.own_lt h').2;omega
  ·have:=(h.nk.own_lt h').2;omega
 obtain⟨p0,pf0⟩:=hNW.nk.at (g:=g) rfl (u:=ns.length) (j:=0) (n:=blank key i) (x:=.int .i64 0) (by simp) hkv (by omega) rfl;rw[Nat.add_zero]at p0 pf0;have hput:=hNW.put (gL:=g) rfl (fun n=>{n with kind:=4}) 0 (.int .i64 4) (fun n kv=>rfl) (fun n=>rfl) (by omega) ns.length (by simp);rw[modify_last,Nat.add_zero]at hput;have hN4:CN bp s i (arrN ns none key i []) dp (.slice (some ⟨g,0,none⟩) (ns.length+1) cap) kvs (W.setCell ⟨g,ns.length*6,none⟩ (.int .i64 4)):=hput.1;have hC4:=hCW.trans hput.2;have hB4:=hBW.chg hput.2;have hG4:GV (W.setCell ⟨g,ns.length*6,none⟩ (.int .i64 4)):=hG.chg hC4 hbp hlt h.above;have H4:Hid _:=And.intro hN4 (And.intro hC4 (And.intro hB4 hG4));obtain⟨c0,c1,c2,c3,cf⟩:=hNW.cd.cell;have x0:W.cell? ⟨w.heap.size,0,none⟩=some (.pointer (some ⟨bp,0,none⟩)):=by rw[cell_of_row W _ 0 _ _ _ hBW.h0];rfl
 have x1:W.cell? ⟨w.heap.size+1,0,none⟩=some (.int .i64 (ns.length:Int)):=by rw[cell_of_row W _ 0 _ _ _ hBW.h1];rfl
 have nb0:¬g=w.heap.size:=by omega
 have HW:Hid _:=hW;clear hN4 hC4 hB4 hG4 hput hBW hNW hCW hkv hgc;have hnl:(ns.length:Int)<(ns.length:Int)+1:=by omega
 go_enter Tryz.func119,Tryz.ntmps119;go_wp2_with fail
 go_region
 have h4:Hid (CN bp s i (arrN ns none key i []) dp (.slice (some ⟨g,0,none⟩) (ns.length+1) cap) kvs (W.setCell ⟨g,ns.length*6,none⟩ (.int .i64 4)).drew∧Chg bp (own (.slice (some ⟨g,0,none⟩) (ns.length+1) cap) kvs) w (own (.slice (some ⟨g,0,none⟩) (ns.length+1) cap) kvs) (W.setCell ⟨g,ns.length*6,none⟩ (.int .i64 4)).drew∧BoxA w.heap.size (w.heap.size+1) bp ns.length (own (.slice (some ⟨g,0,none⟩) (ns.length+1) cap) kvs) (W.setCell ⟨g,ns.length*6,none⟩ (.int .i64 4)).drew∧GV (W.setCell ⟨g,ns.length*6,none⟩ (.int .i64 4)).drew):=⟨H4.out.1.drew,H4.out.2.1.drew,H4.out.2.2.1.drew,H4.out.2.2.2.drew⟩;clear p0 pf0 c0 c1 c2 c3 cf x0 x1 HW H4 hsz;generalize (W.setCell ⟨g,ns.length*6,none⟩ (.int .i64 4)).drew=w4 at h4;clear hW;have y0:w4.cell? ⟨w.heap.size,0,none⟩=some (.pointer (some ⟨bp,0,none⟩)):=by rw[cell_of_row w4 _ 0 _ _ _ h4.out.2.2.1.h0];rfl
 have hH:(sfx s i).head?=some 91:=hc;have HV:Hid (valL d (sfx s i) i=arrV d (sfx s i) i):=valL_arr d _ _ hc;by_cases hd32:dp=32
 ·have hd0:=hd hd32
  have HV2:Hid (valL d (sfx s i) i=.error (5,i)):=by have:=HV.out;rw[hd0]at this ⊢;exact this
  have hli:=clistA_deep bp s i key ns dp _ kvs w4 w.heap.size (w.heap.size+1) h4.out.1 hd32;unfold arrFv at hli;clear hv hd hd0 HV hd32;go_wp2_with fail
  refine hli.mono ?_;rintro r w5 ⟨rfl,rfl⟩;clear hli;go_wp2;refine⟨rfl,?_⟩;rw[HV2.out];exact⟨by omega,rfl,h4.out.2.1.drop⟩
 ·obtain⟨d',rfl,hv'⟩:=hv (by omega)
  have HV2:Hid (valL (d'+1) (sfx s i) i=arrL (valL d') (sfx s i) i):=HV.out;have hli:=clistA bp s i key ns dp _ kvs w4 w.heap.size (w.heap.size+1) d' hv' hs hbp h4.out.1 h4.out.2.2.2 hi hl hw (by omega) h4.out.2.2.1;unfold arrFv at hli;clear hv hd HV hv' hd32;cases hQ:arrL (valL d') (sfx s i) i with
  | error q=>
    obtain⟨e,a⟩:=q;rw[hQ]at hli;have HQ:Hid (valL (d'+1) (sfx s i) i=.error (e,a)):=by rw[←hQ];exact HV2.out
    clear hQ;go_wp2_with fail
    refine hli.mono ?_;rintro r w5 ⟨h0,rfl,h5⟩;have H5:Hid _:=And.intro h0 (h4.out.2.1.trans h5);clear hli h0 h5;go_wp2;refine⟨rfl,?_⟩;rw[HQ.out];exact⟨H5.out.1,rfl,H5.out.2⟩
  | ok q=>
    obtain⟨t,n⟩:=q;rw[hQ]at hli;have HQ:Hid (valL (d'+1) (sfx s i) i=.ok (t,n)):=by rw[←hQ];exact HV2.out
    clear hQ;go_wp2_with fail
    refine hli.mono ?_;rintro r w5 ⟨rfl,v5,k5,hN5,hC5⟩;have H5:Hid _:=And.intro hN5 (h4.out.2.1.trans hC5);clear hli hN5 hC5;go_wp2;go_end0
    rw[HQ.out];exact⟨rfl,v5,k5,H5.out.1,H5.out.2⟩
end
end Go.Proofs.YtbbopknnoamkbaaGreatDoor
